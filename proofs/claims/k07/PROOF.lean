import PyProof.Rows.All
import Wide.All
import OpenK.AllK
import Wide.FinOn
import HandS.ForMost
import HandS.ForExc
import HandS.TupAny
import HandS.TupMul
import HandS.Style
import HandS.OwnEq
import HandS.IsInst
import HandS.Zip
import KE.DataFind
import PySem.Challenge.RW_afterfall_k07_equal_plans
set_option Elab.async false
set_option linter.all false
set_option maxRecDepth 100000
namespace Af
open PySem L2

/-! heaps -/
theorem same_new {H : Hp} {p : Addr} {o : HO} (h : H p = none) : Same H (upd H p o) := fun b u e => by
  rw [upd_ne (ne_of_none e h)]
  exact e
theorem nofree {H : Hp} {p q : Addr} {o : HO} (h : H p = some o) (h' : H q = none) : q ≠ p := fun e => by
  rw [e, h] at h'
  cases h'

/-- a new object o -/
def New (o : HO) (H : Hp) (Q : VK) : Prop := ∀ (p : Addr) (H' : Hp), H p = none → Same H H' → H' p = some o → Q (.ref p) H'
theorem New.mk {o : HO} {H : Hp} {Q : VK} (h : New o H Q) : ∀ p, H p = none → Q (.ref p) (upd H p o) := fun p hp => h p _ hp (same_new hp) upd_same
/-- a tuple of xs, new or not -/
def NewT (xs : List V) (H : Hp) (Q : VK) : Prop := ∀ (p : Addr) (H' : Hp), Same H H' → H' p = some (.tup xs) → Q (.ref p) H'

theorem pe_imp {X : Cx} {e : Expr} {t t' : TE} (h : PE X e t) (i : ∀ σ H Q, t' σ H Q → t σ H Q) : PE X e t' := ⟨fun pins s σ H Q I q => h.run pins s σ H Q I (i σ H Q q)⟩
theorem op_imp {X : Cx} {f : Value → Value → Sem Value} {r r' : R2} (h : OpR X f r) (i : ∀ x y H Q, r' x y H Q → r x y H Q) : OpR X f r' :=
  fun pins s σ H x y v u Q I rx ry q => h pins s σ H x y v u Q I rx ry (i x y H Q q)
theorem call_imp {X : Cx} {f : Value} {r r' : List V → Hp → VK → Prop} (h : CallR X f r) (i : ∀ xs H Q, r' xs H Q → r xs H Q) : CallR X f r' :=
  fun pins s σ H xs us Q I rs q => h pins s σ H xs us Q I rs (i xs H Q q)

/-! displays -/
def tTup' (t : TA) : TE := fun σ H Q => t σ H fun xs H1 => xs.length ≤ sizeLine ∧ New (.tup xs) H1 Q
def tLst' (t : TA) : TE := fun σ H Q => t σ H fun xs H1 => xs.length ≤ sizeLine ∧ New (.lst xs) H1 Q
section
variable {X : Cx} {e : Expr} {es : List Expr} {te : TE} {t : TA} {pos : Pos}
theorem pe_tup' {x1 : Nat} (h : PA X es t) : PE X (.Tuple es x1 pos) (tTup' t) := ⟨fun pins s σ H Q I hq =>
  wpAny_Tuple_spliced (thn (h.run pos pins s σ H _ I hq) fun us s1 z => by
    obtain ⟨xs, H1, I1, r, z, q⟩ := z
    refine ⟨by rw [← r.length]; exact z, ?_⟩
    have hf := I1.fresh
    exact ⟨.ref s1.heap.objs.size, upd H1 s1.heap.objs.size (.tup xs),
      I1.laid (t' := s1.toks) (fun b u e => Heap.get?_push_of_some _ e) (Nat.le_refl _) ⟨z, us, r, ⟨_, Heap.get?_push_size _ rfl, rfl, _, rfl⟩⟩, rfl, q.mk _ hf⟩)⟩
theorem pe_lst' (h : PA X es t) : PE X (.List es pos) (tLst' t) := ⟨fun pins s σ H Q I hq =>
  wpAny_List_spliced (thn (h.run pos pins s σ H _ I hq) fun us s1 z => by
    obtain ⟨xs, H1, I1, r, z, q⟩ := z
    refine ⟨by rw [← r.length]; exact z, ?_⟩
    have hf := I1.fresh
    exact ⟨.ref s1.heap.objs.size, upd H1 s1.heap.objs.size (.lst xs),
      I1.laid (t' := s1.toks) (fun b u e => Heap.get?_push_of_some _ e) (Nat.le_refl _) ⟨z, us, 0, r, Heap.get?_push_size _ rfl⟩, rfl, q.mk _ hf⟩)⟩

/-! lists and tuples -/
def rCat' : R2 := fun x y H Q => ∃ l b xs zs, x = .ref l ∧ y = .ref b ∧ H l = some (.lst xs) ∧ H b = some (.lst zs) ∧ xs.length + zs.length ≤ sizeLine ∧ New (.lst (xs ++ zs)) H Q
theorem op_cat' : OpR X (binaryOp .Add) rCat' := op_imp op_cat fun x y H Q h => by
  obtain ⟨l, b, xs, zs, h1, h2, h3, h4, h5, q⟩ := h
  exact ⟨l, b, xs, zs, h1, h2, h3, h4, h5, q.mk⟩
def rCatT' : R2 := fun x y H Q => ∃ a b xs ys, x = .ref a ∧ y = .ref b ∧ H a = some (.tup xs) ∧ H b = some (.tup ys) ∧ xs.length + ys.length ≤ sizeLine ∧ NewT (xs ++ ys) H Q
theorem op_catT' : OpR X (binaryOp .Add) rCatT' := op_imp op_catA fun x y H Q h => by
  obtain ⟨a, b, xs, ys, h1, h2, h3, h4, h5, q⟩ := h
  refine ⟨a, b, xs, ys, h1, h2, SqT.of h3, SqT.of h4, h5, fun e => ?_, fun _ e => ?_, fun _ _ p hp => q p _ (same_new hp) upd_same⟩
  · subst e
    exact q b H (Same.refl H) h4
  · subst e
    exact q a H (Same.refl H) (by rw [List.append_nil]; exact h3)
def rRep' : R2 := fun x y H Q => ∃ l k xs, x = .ref l ∧ y = .int k ∧ H l = some (.lst xs) ∧ 0 ≤ k ∧ k ≤ 1000 ∧ xs.length * k.toNat ≤ sizeLine ∧ New (.lst (List.replicate k.toNat xs).flatten) H Q
theorem op_rep' : OpR X (binaryOp .Mult) rRep' := op_imp op_rep fun x y H Q h => by
  obtain ⟨l, k, xs, h1, h2, h3, h4, h5, h6, q⟩ := h
  exact ⟨l, k, xs, h1, h2, h3, by omega, by omega, h6, q.mk⟩
theorem sl_imp {r r' : V → Option Int → Option Int → Hp → VK → Prop} (h : SlR X r) (i : ∀ x lo hi H Q, r' x lo hi H Q → r x lo hi H Q) : SlR X r' :=
  fun pins s σ H x v vl vu lo hi sl Q I rx hs pl pu q => h pins s σ H x v vl vu lo hi sl Q I rx hs pl pu (i x lo hi H Q q)
def rSlL' : V → Option Int → Option Int → Hp → VK → Prop := fun x lo hi H Q => ∃ a xs, x = .ref a ∧ H a = some (.lst xs) ∧ New (.lst (cutV xs lo hi)) H Q
theorem sl_list' : SlR X rSlL' := sl_imp sl_list fun x lo hi H Q h => by
  obtain ⟨a, xs, h1, h2, q⟩ := h
  exact ⟨a, xs, h1, SqL.of h2, q.mk⟩
theorem cut_all {xs : List V} {lo hi : Option Int} (h : HT.sIx xs.length 0 lo = 0 ∧ HT.sIx xs.length xs.length hi = xs.length) : cutV xs lo hi = xs := by
  unfold cutV
  rw [h.1, h.2]
  simp
def rSlT' : V → Option Int → Option Int → Hp → VK → Prop := fun x lo hi H Q => ∃ a xs, x = .ref a ∧ H a = some (.tup xs) ∧ NewT (cutV xs lo hi) H Q
theorem sl_tup' : SlR X rSlT' := sl_imp sl_tupA fun x lo hi H Q h => by
  obtain ⟨a, xs, h1, h2, q⟩ := h
  refine ⟨a, xs, h1, SqT.of h2, fun w => ?_, fun _ p hp => q p _ (same_new hp) upd_same⟩
  exact q a H (Same.refl H) (by rw [cut_all w]; exact h2)
def Sq (H : Hp) (p : Addr) (ys : List V) : Prop := H p = some (.lst ys) ∨ H p = some (.tup ys)
theorem Sq.or {K : PySem.W.Frag} {H : Hp} {p : Addr} {ys : List V} (h : Sq H p ys) : SqL K H p ys ∨ SqT K H p ys := h.elim (fun h => .inl (SqL.of h)) fun h => .inr (SqT.of h)
def rList' : List V → Hp → VK → Prop := fun xs H Q => ∃ p ys, xs = [.ref p] ∧ Sq H p ys ∧ New (.lst ys) H Q
theorem call_list' : CallR X (.type "list") rList' := call_imp call_list_of fun xs H Q h => by
  obtain ⟨p, ys, h1, h2, q⟩ := h
  exact ⟨p, ys, h1, h2.or, q.mk⟩
def rTuple' : List V → Hp → VK → Prop := fun xs H Q => ∃ p ys, xs = [.ref p] ∧ Sq H p ys ∧ NewT ys H Q
theorem call_tuple' : CallR X (.type "tuple") rTuple' := call_imp call_tuple_of fun xs H Q h => by
  obtain ⟨p, ys, h1, h2, q⟩ := h
  rcases h2 with h2 | h2
  · exact ⟨p, ys, h1, .inl ⟨SqL.of h2, fun l hl => q l _ (same_new hl) upd_same⟩⟩
  · exact ⟨p, ys, h1, .inr ⟨SqT.of h2, q p H (Same.refl H) h2⟩⟩
def rLen' : List V → Hp → VK → Prop := fun xs H Q => ∃ p ys, xs = [.ref p] ∧ Sq H p ys ∧ Q (.int ys.length) H
theorem call_len' : CallR X (.builtin "len") rLen' := call_imp call_len_seq fun xs H Q h => by
  obtain ⟨p, ys, h1, h2, q⟩ := h
  exact ⟨p, ys, h1, h2.or, q⟩
def rLenK (K : PySem.W.Frag) : List V → Hp → VK → Prop := fun xs H Q => ∃ p ys, xs = [.ref p] ∧ (SqL K H p ys ∨ SqT K H p ys) ∧ Q (.int ys.length) H
theorem call_lenK : CallR X (.builtin "len") (rLenK X.K) := call_len_seq
theorem ix_imp {r r' : R2} (h : IxR X r) (i : ∀ x y H Q, r' x y H Q → r x y H Q) : IxR X r' :=
  fun value slice pins s σ H x y v u Q I rx ry q hs => h value slice pins s σ H x y v u Q I rx ry (i x y H Q q) hs
def rIx' : R2 := fun x y H Q => ∃ p xs i v, x = .ref p ∧ y = .int i ∧ Sq H p xs ∧ atI xs i = some v ∧ Q v H
theorem ix_seq' : IxR X rIx' := ix_imp (ix_list.or ix_tup) fun x y H Q h => by
  obtain ⟨p, xs, i, v, h1, h2, h3, h4, q⟩ := h
  rcases h3 with h3 | h3
  · exact .inl ⟨p, xs, i, v, h1, h2, SqL.of h3, h4, q⟩
  · exact .inr ⟨p, xs, i, v, h1, h2, SqT.of h3, h4, q⟩
/-- xs[::-1] -/
def tRev' (te : TE) : TE := fun σ H Q => te σ H fun x H1 => ∃ a xs, x = .ref a ∧ H1 a = some (.lst xs) ∧ New (.lst xs.reverse) H1 Q
end

/-! a def of the text, called -/
structure Cal (P : Program) (w : World) (K : PySem.W.Frag) (mg : Str → Option Value) (base : Heap) (k : Nat) (x : Str) (ps : List Str) (sp : Sp) : Prop where
  ex : ∃ (f : Addr) (fd : FuncData), FnOk P w K mg base CX0 k f fd ps sp ∧ mg x = some (.ref f) ∧ PySem.W.keepIn K (.ref f) = true ∧ Binds K fd ps []
def tCal (sp : Sp) (t : TA) : TE := fun σ H Q => t σ H fun vs H1 => sp vs H1 Q E0
section
variable {X : Cx} {k j : Nat} {x : Str} {ps : List Str} {sp : Sp} {e : Expr} {es : List Expr} {t : TA} {p pos : Pos}
theorem pe_cal (c : Cal X.prog X.w X.K X.mg X.base k x ps sp) (hr : Room j X.A) (ha : PA X (e :: es) t) (hkj : k ≤ j := by decide) (hg : Gl X x := by rfl) (hdb : (x == ("__debug__" : Str)) = false := by decide)
    (he : starEach (e :: es) X.env = (false, eval e X.env) :: starEach es X.env := by rfl) (hpl : (backTo pos (starEach es X.env)).any (·.1) = false := by rfl) :
    PE X (.Call (.Name x p) (e :: es) [] pos) (tCal sp t) := by
  obtain ⟨f, fd, G, m, kp, b⟩ := c.ex
  have := pe_call (pos := pos) (p := p) G (hr.mono hkj) hg m kp b .nil pass0 ha hdb he hpl
  refine ⟨fun pins s σ H Q I h => this.run pins s σ H Q I ?_⟩
  have e1 : tCal sp t = tCall sp [] E0 t := by
    funext σ H Q
    unfold tCal tCall
    simp only [List.append_nil]
  rw [← e1]
  exact h
theorem pe_cal0 (c : Cal X.prog X.w X.K X.mg X.base k x ps sp) (hr : Room j X.A) (hkj : k ≤ j := by decide) (hg : Gl X x := by rfl) (hdb : (x == ("__debug__" : Str)) = false := by decide) :
    PE X (.Call (.Name x p) [] [] pos) (tCal sp tNil) := by
  obtain ⟨f, fd, G, m, kp, b⟩ := c.ex
  exact pe_call0 (pos := pos) (p := p) G (hr.mono hkj) hg m kp b .nil pass0 hdb
end

/-! ways that meet again behind a statement: J tells where -/
def tCut (t : TS) : TS := fun D σ H => ∃ J : L2.St → Hp → Prop, t { D with nx := J } σ H ∧ ∀ σ' H', J σ' H' → D.nx σ' H'
theorem ps_cut {X : Cx} {st : Stmt} {t : TS} (h : PS X st t) : PS X st (tCut t) := ⟨fun pins s σ H D I q => by
  obtain ⟨J, q1, q2⟩ := q
  refine thn (h.run pins s σ H { D with nx := J } I q1) fun f s1 z => ?_
  cases f with
  | next =>
    obtain ⟨σ', H', I', z⟩ := z
    exact ⟨σ', H', I', q2 σ' H' z⟩
  | ret v => exact z
  | brk => exact z
  | cont => exact z⟩

/-! the pen: its list, its cells' list, the cells; how often it was asked (at most m), what is left -/
structure Pn where
  p : Addr
  c : Addr
  ns : List Int
structure Pen (q : Pn) (m : Nat) (H : Hp) : Prop where
  ex : ∃ (i n : Int), H q.p = some (.lst [.ref q.c, .int i, .int n]) ∧ H q.c = some (.lst (q.ns.map V.int)) ∧ q.c ≠ q.p ∧ 0 ≤ i ∧ i ≤ (m : Int) ∧ 0 ≤ n
theorem Pen.same {q : Pn} {m : Nat} {H H' : Hp} (h : Pen q m H) (s : Same H H') : Pen q m H' := by
  obtain ⟨i, n, h1, h2, h3⟩ := h.ex
  exact ⟨i, n, s _ _ h1, s _ _ h2, h3⟩
theorem Pen.mono {q : Pn} {m m' : Nat} {H : Hp} (h : Pen q m H) (l : m ≤ m') : Pen q m' H := by
  obtain ⟨i, n, h1, h2, h3, h4, h5, h6⟩ := h.ex
  exact ⟨i, n, h1, h2, h3, h4, by omega, h6⟩
theorem Pen.lst {q : Pn} {m : Nat} {H : Hp} (h : Pen q m H) : ∃ l, H q.p = some (.lst l) := by
  obtain ⟨i, n, h1, _⟩ := h.ex
  exact ⟨_, h1⟩
theorem Pen.free {q : Pn} {m : Nat} {H : Hp} {a : Addr} (h : Pen q m H) (e : H a = none) : a ≠ q.p ∧ a ≠ q.c := by
  obtain ⟨i, n, h1, h2, _⟩ := h.ex
  refine ⟨fun z => ?_, fun z => ?_⟩
  · rw [z, h1] at e
    cases e
  · rw [z, h2] at e
    cases e
/-- an object that is not the pen's is changed -/
theorem Pen.upd {q : Pn} {m : Nat} {H : Hp} {a : Addr} {o : HO} (h : Pen q m H) (n : a ≠ q.p ∧ a ≠ q.c) : Pen q m (upd H a o) := by
  obtain ⟨i, r, h1, h2, h3⟩ := h.ex
  exact ⟨i, r, by rw [upd_ne n.1.symm]; exact h1, by rw [upd_ne n.2.symm]; exact h2, h3⟩
/-- what stands but for the list at p stands -/
def Kp (p : Addr) (H H' : Hp) : Prop := ∀ a o, (a ≠ p ∨ ∀ l, o ≠ HO.lst l) → H a = some o → H' a = some o
theorem Kp.refl {p : Addr} {H : Hp} : Kp p H H := fun _ _ _ h => h
theorem Kp.trans {p : Addr} {H H1 H2 : Hp} (a : Kp p H H1) (b : Kp p H1 H2) : Kp p H H2 := fun c o n h => b c o n (a c o n h)
theorem Kp.same {p : Addr} {H H' : Hp} (s : Same H H') : Kp p H H' := fun a o _ h => s a o h
theorem Kp.tup {p a : Addr} {H H' : Hp} {xs : List V} (k : Kp p H H') (h : H a = some (.tup xs)) : H' a = some (.tup xs) := k a _ (.inr fun l z => by cases z) h
theorem Kp.lst {p a : Addr} {H H' : Hp} {xs : List V} (k : Kp p H H') (n : a ≠ p) (h : H a = some (.lst xs)) : H' a = some (.lst xs) := k a _ (.inl n) h
theorem Kp.ins {p a C dx : Addr} {H H' : Hp} {fs : List (Str × V)} (k : Kp p H H') (h : H a = some (.ins C dx fs)) : H' a = some (.ins C dx fs) := k a _ (.inr fun l z => by cases z) h
/-- what a call with the pen leaves: all but the pen as it was, a pen again -/
structure Go (q : Pn) (m : Nat) (H H' : Hp) : Prop where
  kp : Kp q.p H H'
  pen : Pen q m H'
theorem Go.refl {q : Pn} {m : Nat} {H : Hp} (h : Pen q m H) : Go q m H H := ⟨Kp.refl, h⟩
theorem Go.trans {q : Pn} {m m' : Nat} {H H1 H2 : Hp} (a : Go q m H H1) (b : Go q m' H1 H2) : Go q m' H H2 := ⟨a.kp.trans b.kp, b.pen⟩
theorem Go.mono {q : Pn} {m m' : Nat} {H H' : Hp} (a : Go q m H H') (l : m ≤ m') : Go q m' H H' := ⟨a.kp, a.pen.mono l⟩
theorem Go.same {q : Pn} {m : Nat} {H H1 H2 : Hp} (a : Go q m H H1) (s : Same H1 H2) : Go q m H H2 := ⟨a.kp.trans (Kp.same s), a.pen.same s⟩
theorem Go.of {q : Pn} {m : Nat} {H H1 : Hp} (h : Pen q m H) (s : Same H H1) : Go q m H H1 := ⟨Kp.same s, h.same s⟩
/-- the pen's own list is stored into -/
theorem Go.at_ {q : Pn} {m m' : Nat} {H : Hp} {l : List V} (h : Pen q m H) (e : Pen q m' (L2.upd H q.p (.lst l))) : Go q m' H (L2.upd H q.p (.lst l)) := ⟨fun a o n k => by
  by_cases z : a = q.p
  · obtain ⟨l', e'⟩ := h.lst
    rcases n with n | n
    · exact absurd z n
    · rw [z, e'] at k
      exact absurd (Option.some.inj k).symm (n l')
  · rw [upd_ne z]
    exact k, e⟩
/-- a list that is new since H is changed -/
theorem Go.mut {q : Pn} {m : Nat} {H H' : Hp} {D : Addr} {o : HO} (h : Pen q m H) (hD : H D = none) {m' : Nat} (g : Go q m' H H') : Go q m' H (L2.upd H' D o) :=
  ⟨fun a u n e => by rw [upd_ne (ne_of_none e hD)]; exact g.kp a u n e, g.pen.upd (h.free hD)⟩
theorem Go.none {q : Pn} {m m' : Nat} {H H' : Hp} {a : Addr} (g : Go q m H H') (h : Pen q m' H) (e : H' a = none) : H a = none := by
  have z := (g.pen.free e).1
  cases k : H a with
  | none => rfl
  | some o =>
    rw [g.kp a o (.inl z) k] at e
    cases e
theorem sz {n : Nat} (h : n ≤ 100000) : n ≤ sizeLine := Nat.le_trans h (by decide)
theorem szr {n : Nat} (h : Nat.ble n 100000 = true := by rfl) : n ≤ sizeLine := sz (Nat.le_of_ble_eq_true h)
theorem szl {n : Nat} (h : n < 100000) : n < sizeLine := Nat.lt_of_lt_of_le h (by decide)

/-! data -/
def ivs (ns : List Int) : List V := ns.map V.int
def dvs (ns : List Int) : List PyData := ns.map PyData.int
theorem dp_ints {K : PySem.W.Frag} {H : Hp} : ∀ ns : List Int, DpAll K H (ivs ns) (dvs ns)
  | [] => .nil
  | n :: ns => .cons (.int n) (dp_ints ns)
theorem lay_ints : ∀ ns : List Int, PyData.canLayAll0 (dvs ns) = true
  | [] => rfl
  | n :: ns => by
    show (PyData.canLay0 (.int n) && PyData.canLayAll0 (dvs ns)) = true
    rw [lay_ints ns]
    rfl
theorem deep_ints : ∀ ns : List Int, PyData.depthAll (dvs ns) = 0
  | [] => rfl
  | n :: ns => by
    show max (PyData.depth (.int n)) (PyData.depthAll (dvs ns)) = 0
    rw [deep_ints ns]
    rfl
theorem eqv_nil (ns : List Int) : PyData.eqv (.list (dvs ns)) (.list []) = ns.isEmpty := by
  cases ns <;> rfl
def rNeNil : R2 := fun x y H Q => ∃ a b ns, x = .ref a ∧ y = .ref b ∧ H a = some (.lst (ivs ns)) ∧ H b = some (.lst []) ∧ Q (.bl (!ns.isEmpty)) H
theorem op_neNil {X : Cx} (hu : X.A.units + 64 < cLine) : OpR X (compareOp .NotEq) rNeNil := op_imp (op_neD hu) fun x y H Q h => by
  obtain ⟨a, b, ns, rfl, rfl, h1, h2, q⟩ := h
  refine ⟨.list (dvs ns), .list [], .lst (SqL.of h1) (dp_ints ns), .lst (SqL.of h2) .nil, ?_, by decide, ?_⟩
  · show (PyData.canLayAll0 (dvs ns) && decide (PyData.depthAll (dvs ns) + 1 ≤ 64)) = true
    rw [lay_ints, deep_ints]
    rfl
  · rw [eqv_nil]
    exact q
end Af

set_option Elab.async false
set_option linter.all false
set_option maxRecDepth 100000
namespace Af
open PySem L2
def top (i : Nat) : Stmt := PySem.Challenge.pw_afterfall_k07_equal_plans.main.body.getD i (.Pass ⟨0, 0, 0, 0⟩)
/-- names of the built-ins that the text does not hide -/
structure Txt (mg : Str → Option Value) : Prop where
  len : mg "len" = none
  int : mg "int" = none
  list : mg "list" = none
  tuple : mg "tuple" = none
  range : mg "range" = none
  min : mg "min" = none
  all : mg "all" = none
  enumerate : mg "enumerate" = none
  zip : mg "zip" = none
  isinstance : mg "isinstance" = none
  bool : mg "bool" = none
abbrev s_l_pen : Stmt := top 24
abbrev N_l_pen : List Str := ["_law_script"]
theorem sc_l_pen : FnScope N_l_pen ["_law_script"] (defScope s_l_pen) := ⟨rfl, rfl, rfl, by decide +kernel, rfl, by decide +kernel, by decide +kernel⟩

abbrev s_l_next : Stmt := top 25
abbrev N_l_next : List Str := ["_law_pen_here", "_law_index", "_law_cell_here", "_law_some", "_law_more", "_law_high"]
theorem sc_l_next : FnScope N_l_next ["_law_pen_here"] (defScope s_l_next) := ⟨rfl, rfl, rfl, by decide +kernel, rfl, by decide +kernel, by decide +kernel⟩

abbrev s_l_draw : Stmt := top 26
abbrev N_l_draw : List Str := ["_law_pen_here", "_law_under", "_law_digit"]
theorem sc_l_draw : FnScope N_l_draw ["_law_pen_here", "_law_under"] (defScope s_l_draw) := ⟨rfl, rfl, rfl, by decide +kernel, rfl, by decide +kernel, by decide +kernel⟩

def sp_pen (K : PySem.W.Frag) : Sp := fun vs H Q _ => ∃ (a : Addr) (ns : List Int), vs = [.ref a] ∧ SqL K H a (ns.map V.int) ∧ ∀ (q : Pn) H', Same H H' → H q.p = none → H q.c = none → Pen q 0 H' → Q (.ref q.p) H'
def sp_next : Sp := fun vs H Q _ => ∃ (q : Pn) (m : Nat), vs = [.ref q.p] ∧ Pen q m H ∧ m < 1000000000000 ∧ ∀ r H', 0 ≤ r → Go q (m + 1) H H' → Q (.int r) H'
def sp_draw : Sp := fun vs H Q _ => ∃ (q : Pn) (m : Nat) (u : Int), vs = [.ref q.p, .int u] ∧ 0 < u ∧ u < 1073741824 ∧ Pen q m H ∧ m < 1000000000000 ∧ ∀ d H', 0 ≤ d → d < u → Go q (m + 1) H H' → Q (.int d) H'
section
variable {P : Program} {w : World} {K : PySem.W.Frag} {mg : Str → Option Value} {base : Heap}
theorem ok_pen {f : Addr} {fd : FuncData} (F : Fun K "_law_pen" "_law_pen" s_l_pen f fd) (T : Txt mg) : FnOk P w K mg base CX0 1 f fd ["_law_script"] (sp_pen K) := by
  refine F.ok sc_l_pen (fun vs H Q E h => ?_) (fun cdv A outer s H vs Q E hr h => ?_)
  · obtain ⟨a, ns, rfl, _⟩ := h
    rfl
  obtain ⟨a, ns, rfl, hS, k⟩ := h
  refine ⟨_, (pss_one (ps_ret (pe_lst' (pa_cons (pe_callTy call_list' (by rfl) T.list (by decide +kernel) (pa_cons (pe_slice sl_list (pv 0) po_none (po_some pe_int)) pa_nil)) (pa_cons pe_int (pa_cons pe_int pa_nil)))))), ?_⟩
  refine ⟨_, rfl, 60, rfl, a, _, rfl, hS, fun c hc => ?_⟩
  have e1 : cutV (ns.map V.int) none (some 60) = (ns.take 60).map V.int := by
    unfold cutV
    have : HT.sIx (ns.map V.int).length (ns.map V.int).length (some 60) = min 60 (ns.map V.int).length := HT.sIx_nat _ _ 60
    rw [this, HT.sIx_none, List.drop_zero, Nat.sub_zero, ← List.map_take]
    congr 1
    rw [List.length_map]
    rcases Nat.le_total 60 ns.length with z | z
    · rw [Nat.min_eq_left z]
    · rw [Nat.min_eq_right z, List.take_of_length_le z, List.take_of_length_le (Nat.le_refl _)]
  refine ⟨c, _, rfl, .inl upd_same, fun d H1 hd s1 hd1 => ?_⟩
  refine ⟨sz (by show 3 ≤ 100000; decide), fun p H2 hp s2 hp2 => ?_⟩
  refine k ⟨p, d, ns.take 60⟩ H2 ((same_new hc).trans (s1.trans s2)) ?_ ?_ ⟨0, 0, hp2, ?_, ?_, Int.le_refl _, Int.le_refl _, Int.le_refl _⟩
  · exact (same_new hc).free (s1.free hp)
  · exact (same_new hc).free hd
  · rw [← e1]
    exact s2 _ _ hd1
  · intro z
    have z' : d = p := z
    rw [← z', hd1] at hp
    cases hp
theorem mod_in {i n : Int} (h : 0 < n) : 0 ≤ i % n ∧ i % n < n := ⟨Int.emod_nonneg i (by omega), Int.emod_lt_of_pos i h⟩
theorem at_mod {ns : List Int} {i : Int} (h : ns ≠ []) : ∃ z, atI (ivs ns) (i % ((ivs ns).length : Int)) = some (.int z) := by
  have hl : 0 < (ivs ns).length := by
    unfold ivs
    rw [List.length_map]
    exact List.length_pos_iff.mpr h
  obtain ⟨a, b⟩ := mod_in (i := i) (n := ((ivs ns).length : Int)) (by omega)
  obtain ⟨j, hj⟩ := Int.eq_ofNat_of_zero_le a
  rw [hj] at b ⊢
  have hj' : j < ns.length := by
    unfold ivs at b
    rw [List.length_map] at b
    omega
  refine ⟨ns[j], atI_nat ?_⟩
  unfold ivs
  rw [List.getElem?_map, List.getElem?_eq_getElem hj']
  rfl
theorem ok_next {f : Addr} {fd : FuncData} (F : Fun K "_law_next" "_law_next" s_l_next f fd) (T : Txt mg) : FnOk P w K mg base CX0 1 f fd ["_law_pen_here"] sp_next := by
  refine F.ok sc_l_next (fun vs H Q E h => ?_) (fun cdv A outer s H vs Q E hr h => ?_)
  · obtain ⟨a, m, rfl, _⟩ := h
    rfl
  obtain ⟨q, m, rfl, hP, hm, k⟩ := h
  obtain ⟨i, n, h1, h2, hc, hi, him, hn⟩ := hP.ex
  refine ⟨_, (pss_cons (ps_set (i := 1) sc_l_next.nd rfl (Or.inl rfl) (pe_ix ix_seq' (pv 0) pe_int (fun _ _ => rfl)))
    (pss_cons (ps_asg (pe_op op_add (pv 1) pe_int) (pg_sub (pv 0) pe_int set_list))
    (pss_cons (ps_set (i := 2) sc_l_next.nd rfl (Or.inl rfl) (pe_op op_add (pe_op op_mul (pv 1) pe_int) pe_int))
    (pss_cons (ps_cut (ps_if (pt_cmpR (op_neNil hr.units) (pe_ix ix_seq' (pv 0) pe_int (fun _ _ => rfl)) (pe_lst' pa_nil) (nomark _))
      (pss_one (ps_set (i := 2) sc_l_next.nd rfl (Or.inl rfl) (pe_ix ix_seq' (pe_ix ix_seq' (pv 0) pe_int (fun _ _ => rfl)) (pe_op op_mod (pe_callTy call_int1 (by rfl) T.int (by decide +kernel) (pa_cons (pv 1) pa_nil)) (pe_callB call_len' (by rfl) T.len (by decide +kernel) (pa_cons (pe_ix ix_seq' (pv 0) pe_int (fun _ _ => rfl)) pa_nil))) (fun _ _ => rfl))))
      pss_nil))
    (pss_cons (ps_cut (ps_if (PW.pt (pw_and (pt_cmpR op_lt (pv 1) (pe_callB call_len' (by rfl) T.len (by decide +kernel) (pa_cons (pe_ix ix_seq' (pv 0) pe_int (fun _ _ => rfl)) pa_nil)) (nomark _)) (pw_and1 (pt_cmpR op_ge (pv 2) (pe_op op_pow pe_int pe_int) (nomark _)))))
      (pss_one (ps_ret (pv 2)))
      pss_nil))
    (pss_cons (ps_set (i := 3) sc_l_next.nd rfl (Or.inl rfl) (pe_op op_mod (pe_callTy call_int1 (by rfl) T.int (by decide +kernel) (pa_cons (pe_op op_add (pe_op op_add (pe_op op_mod (pe_callTy call_int1 (by rfl) T.int (by decide +kernel) (pa_cons (pv 2) pa_nil)) pe_int) (pe_op op_mul (pv 1) pe_int)) pe_int) pa_nil)) pe_int))
    (pss_cons (ps_set (i := 4) sc_l_next.nd rfl (Or.inl rfl) (pe_op op_mod (pe_callTy call_int1 (by rfl) T.int (by decide +kernel) (pa_cons (pe_op op_add (pe_op op_add (pe_op op_mul (pv 3) (pv 3)) (pe_op op_mul (pv 1) pe_int)) pe_int) pa_nil)) pe_int))
    (pss_cons (ps_set (i := 5) sc_l_next.nd rfl (Or.inl rfl) (pe_op op_mod (pe_callTy call_int1 (by rfl) T.int (by decide +kernel) (pa_cons (pe_op op_add (pe_op op_add (pe_op op_mul (pv 4) (pv 4)) (pv 3)) (pe_op op_mul (pe_op op_mul (pv 1) (pv 1)) pe_int)) pa_nil)) pe_int))
    (pss_one (ps_ret (pe_op op_add (pe_op op_mul (pe_op op_add (pe_op op_mul (pv 5) pe_int) (pv 4)) pe_int) (pv 3)))))))))))), ?_⟩
  -- the count, the cell
  refine ⟨_, rfl, q.p, _, _, _, rfl, rfl, .inl h1, rfl, ?_⟩
  refine ⟨_, rfl, _, _, rfl, rfl, _, rfl, q.p, _, _, _, rfl, rfl, h1, rfl, ?_⟩
  refine ⟨_, rfl, _, _, rfl, rfl, .inr ⟨by decide, by decide⟩, _, _, rfl, rfl, ?_⟩
  have e1 : (upd H q.p (.lst [.ref q.c, .int (i + 1), .int n])) q.p = some (.lst [.ref q.c, .int (i + 1), .int n]) := upd_same
  have g1 : Go q (m + 1) H (upd H q.p (.lst [.ref q.c, .int (i + 1), .int n])) := Go.at_ hP ⟨i + 1, n, upd_same, by rw [upd_ne hc]; exact h2, hc, by omega, by omega, hn⟩
  have e2 : (upd H q.p (.lst [.ref q.c, .int (i + 1), .int n])) q.c = some (.lst (ivs q.ns)) := by rw [upd_ne hc]; exact h2
  refine ⟨fun σ' H' => ∃ cell : Int, σ' = [some (.ref q.p), some (.int i), some (.int cell), none, none, none] ∧ Go q (m + 1) H H' ∧ H' q.p = some (.lst [.ref q.c, .int (i + 1), .int n]) ∧ H' q.c = some (.lst (ivs q.ns)), ?_, ?_⟩
  · refine ⟨_, rfl, q.p, _, _, _, rfl, rfl, .inl e1, rfl, ?_⟩
    refine ⟨sz (by decide), fun e H1 he s1 he1 => ?_⟩
    have k1 := s1 _ _ e1
    have k2 := s1 _ _ e2
    have g2 := g1.same s1
    refine ⟨q.c, e, q.ns, rfl, rfl, k2, he1, _, rfl, ?_⟩
    by_cases hns : q.ns = []
    · have z : (!q.ns.isEmpty) = false := by rw [hns]; rfl
      rw [z]
      exact iteF ⟨_, rfl, g2, k1, k2⟩
    · have z : (!q.ns.isEmpty) = true := by
        cases e : q.ns with
        | nil => exact absurd e hns
        | cons a b => rfl
      rw [z]
      refine iteT ?_
      obtain ⟨v, hv⟩ := at_mod (i := i) hns
      refine ⟨_, rfl, q.p, _, _, _, rfl, rfl, .inl k1, rfl, ?_⟩
      refine ⟨_, rfl, .inl ⟨_, rfl, ?_⟩⟩
      refine ⟨_, rfl, q.p, _, _, _, rfl, rfl, .inl k1, rfl, q.c, _, rfl, .inl k2, ?_⟩
      refine ⟨_, _, rfl, rfl, ?_, q.c, _, _, _, rfl, rfl, .inl k2, hv, ?_⟩
      · unfold ivs
        rw [List.length_map]
        have := List.length_pos_iff.mpr hns
        omega
      · exact ⟨v, rfl, g2, k1, k2⟩
  · rintro σ' H' ⟨cell, rfl, g2, k1, k2⟩
    -- a great cell is taken as it is
    refine ⟨fun σ'' H'' => σ'' = [some (.ref q.p), some (.int i), some (.int cell), none, none, none] ∧ H'' = H', ?_, ?_⟩
    · refine ⟨_, rfl, _, rfl, q.p, _, _, _, rfl, rfl, .inl k1, rfl, q.c, _, rfl, .inl k2, ?_⟩
      refine ⟨_, _, rfl, rfl, _, rfl, ite2 (fun _ => ?_) (fun _ => iteF ⟨rfl, rfl⟩)⟩
      refine ⟨_, rfl, _, _, rfl, rfl, ⟨by decide, by decide, by decide⟩, _, _, rfl, rfl, _, rfl, ite2 (fun q => ?_) (fun _ => ⟨rfl, rfl⟩)⟩
      refine ⟨_, rfl, k cell H' ?_ g2⟩
      have q' : (10 : Int) ^ (18 : Nat) ≤ cell := of_decide_eq_true q
      omega
    · rintro σ'' H'' ⟨rfl, rfl⟩
      have M1 : (0 : Int) < 2147483587 := by decide
      refine ⟨_, rfl, .inl ⟨_, rfl, _, _, rfl, rfl, M1, ?_⟩⟩
      refine ⟨_, rfl, _, _, rfl, rfl, .inr ⟨by decide, by decide⟩, _, _, rfl, rfl, _, _, rfl, rfl, .inl ⟨_, rfl, _, _, rfl, rfl, M1, ?_⟩⟩
      generalize hs : ((cell % 2147483587 + i * 30119 + 89) % 2147483587 : Int) = some1
      have b1 := mod_in (i := cell % 2147483587 + i * 30119 + 89) M1
      rw [hs] at b1
      have M2 : (0 : Int) < 2147483563 := by decide
      refine ⟨_, rfl, _, rfl, _, _, rfl, rfl, .inl ⟨by omega, by omega⟩, _, rfl, _, _, rfl, rfl, .inr ⟨by decide, by decide⟩, _, _, rfl, rfl, _, _, rfl, rfl, .inl ⟨_, rfl, _, _, rfl, rfl, M2, ?_⟩⟩
      generalize hs2 : ((some1 * some1 + i * 70061 + 71) % 2147483563 : Int) = more
      have b2 := mod_in (i := some1 * some1 + i * 70061 + 71) M2
      rw [hs2] at b2
      have M3 : (0 : Int) < 2147483549 := by decide
      refine ⟨_, rfl, _, rfl, _, _, rfl, rfl, .inl ⟨by omega, by omega⟩, _, rfl, _, _, rfl, rfl, _, rfl, _, rfl, _, _, rfl, rfl, .inl ⟨by omega, by omega⟩, _, _, rfl, rfl, .inr ⟨by decide, by decide⟩, _, _, rfl, rfl, .inl ⟨_, rfl, _, _, rfl, rfl, M3, ?_⟩⟩
      generalize hs3 : ((more * more + some1 + i * i * 47) % 2147483549 : Int) = high
      have b3 := mod_in (i := more * more + some1 + i * i * 47) M3
      rw [hs3] at b3
      refine ⟨_, rfl, _, _, rfl, rfl, .inr ⟨by decide, by decide⟩, _, rfl, _, _, rfl, rfl, _, _, rfl, rfl, .inr ⟨by decide, by decide⟩, _, rfl, _, _, rfl, rfl, ?_⟩
      exact k _ H'' (by omega) g2
theorem ok_draw {f : Addr} {fd : FuncData} (F : Fun K "_law_draw" "_law_draw" s_l_draw f fd) (T : Txt mg) (c_l_next : Cal P w K mg base 1 "_law_next" ["_law_pen_here"] sp_next) : FnOk P w K mg base CX0 2 f fd ["_law_pen_here", "_law_under"] sp_draw := by
  refine F.ok sc_l_draw (fun vs H Q E h => ?_) (fun cdv A outer s H vs Q E hr h => ?_)
  · obtain ⟨a, m, u, rfl, _⟩ := h
    rfl
  obtain ⟨q, m, u, rfl, u0, u1, hP, hm, k⟩ := h
  refine ⟨_, (pss_cons (ps_cut (ps_if (pt_cmpR op_lt (pe_ix ix_seq' (pv 0) pe_int (fun _ _ => rfl)) (pv 1) (nomark _))
      (pss_one (ps_asg (pe_cal c_l_next hr (pa_cons (pv 0) pa_nil)) (pg_sub (pv 0) pe_int set_list)))
      pss_nil))
    (pss_cons (ps_set (i := 2) sc_l_draw.nd rfl (Or.inl rfl) (pe_op op_mod (pe_callTy call_int1 (by rfl) T.int (by decide +kernel) (pa_cons (pe_ix ix_seq' (pv 0) pe_int (fun _ _ => rfl)) pa_nil)) (pv 1)))
    (pss_cons (ps_asg (pe_op op_fdiv (pe_ix ix_seq' (pv 0) pe_int (fun _ _ => rfl)) (pv 1)) (pg_sub (pv 0) pe_int set_list))
    (pss_one (ps_ret (pv 2)))))), ?_⟩
  refine ⟨fun σ' H' => ∃ i n, σ' = [some (.ref q.p), some (.int u), none] ∧ Go q (m + 1) H H' ∧ H' q.p = some (.lst [.ref q.c, .int i, .int n]) ∧ H' q.c = some (.lst (ivs q.ns)) ∧ q.c ≠ q.p ∧ 0 ≤ i ∧ i ≤ ((m + 1 : Nat) : Int) ∧ 0 ≤ n, ?_, ?_⟩
  · obtain ⟨i, n, h1, h2, hc, hi, him, hn⟩ := hP.ex
    refine ⟨_, rfl, q.p, _, _, _, rfl, rfl, .inl h1, rfl, _, rfl, _, _, rfl, rfl, _, rfl, ite2 (fun _ => ?_) (fun _ => ?_)⟩
    · refine ⟨_, rfl, q, m, rfl, hP, hm, fun r H1 r0 g1 => ?_⟩
      obtain ⟨i, n, h1, h2, hc, hi, him, hn⟩ := g1.pen.ex
      refine ⟨_, rfl, q.p, _, _, _, rfl, rfl, h1, rfl, i, r, rfl, ?_, upd_same, by rw [upd_ne hc]; exact h2, hc, hi, him, r0⟩
      exact g1.trans (Go.at_ g1.pen ⟨i, r, upd_same, by rw [upd_ne hc]; exact h2, hc, hi, him, r0⟩)
    · exact ⟨i, n, rfl, (Go.refl hP).mono (Nat.le_succ m), h1, h2, hc, hi, by omega, hn⟩
  · rintro σ' H' ⟨i, n, rfl, g1, h1, h2, hc, hi, him, hn⟩
    refine ⟨_, rfl, q.p, _, _, _, rfl, rfl, .inl h1, rfl, .inl ⟨_, rfl, _, rfl, _, _, rfl, rfl, u0, ?_⟩⟩
    refine ⟨_, rfl, q.p, _, _, _, rfl, rfl, .inl h1, rfl, _, rfl, _, _, rfl, rfl, ⟨u0, u1⟩, _, rfl, q.p, _, _, _, rfl, rfl, h1, rfl, ?_⟩
    obtain ⟨b0, b1⟩ := mod_in (i := n) u0
    refine ⟨_, rfl, k _ _ b0 b1 (g1.trans (Go.at_ g1.pen ⟨i, n / u, upd_same, by rw [upd_ne hc]; exact h2, hc, hi, him, Int.ediv_nonneg hn (by omega)⟩))⟩
end
end Af

set_option Elab.async false
set_option linter.all false
set_option maxRecDepth 100000
namespace Af
open PySem L2
theorem same_mut {H H' : Hp} {D : Addr} {o : HO} (s : Same H H') (h : H D = none) : Same H (upd H' D o) := fun a u e => by
  rw [upd_ne (ne_of_none e h)]
  exact s a u e
/-! data: a step, a plan's parts -/
abbrev Stp := Option (Int × List Int)
def StepV (H : Hp) : V → Stp → Prop
  | x, none => x = .non
  | x, some (f, ws) => ∃ a b, x = .ref a ∧ H a = some (.tup [.int f, .ref b]) ∧ H b = some (.tup (ivs ws))
structure Pl where
  cs : List Int
  w : Int
  sts : List Stp
structure PlanV (p : Addr) (H : Hp) (v : V) (pl : Pl) : Prop where
  ex : ∃ a ca sa xs, v = .ref a ∧ H a = some (.tup [.ref ca, .int pl.w, .ref sa]) ∧ H ca = some (.tup (ivs pl.cs)) ∧ sa ≠ p ∧ H sa = some (.lst xs) ∧ Paired (StepV H) xs pl.sts
theorem StepV.kp {p : Addr} {H H' : Hp} (k : Kp p H H') : ∀ {x : V} {st : Stp}, StepV H x st → StepV H' x st
  | x, none, h => h
  | x, some (f, ws), h => by
    obtain ⟨a, b, e, h1, h2⟩ := h
    exact ⟨a, b, e, k.tup h1, k.tup h2⟩
theorem steps_kp {p : Addr} {H H' : Hp} {xs : List V} {sts : List Stp} (k : Kp p H H') (h : Paired (StepV H) xs sts) : Paired (StepV H') xs sts := L2.Paired.mapP h fun _ _ z => z.kp k
theorem steps_same {H H' : Hp} {xs : List V} {sts : List Stp} (k : Same H H') (h : Paired (StepV H) xs sts) : Paired (StepV H') xs sts := steps_kp (p := 0) (Kp.same k) h
theorem PlanV.kp {p : Addr} {H H' : Hp} {v : V} {pl : Pl} (k : Kp p H H') (h : PlanV p H v pl) : PlanV p H' v pl := by
  obtain ⟨a, ca, sa, xs, e, h1, h2, n, h3, h4⟩ := h.ex
  exact ⟨a, ca, sa, xs, e, k.tup h1, k.tup h2, n, k.lst n h3, steps_kp k h4⟩
theorem PlanV.same {p : Addr} {H H' : Hp} {v : V} {pl : Pl} (k : Same H H') (h : PlanV p H v pl) : PlanV p H' v pl := h.kp (Kp.same k)
theorem paired_app {α β : Type} {F : α → β → Prop} : ∀ {a c : List α} {b d : List β}, Paired F a b → Paired F c d → Paired F (a ++ c) (b ++ d)
  | _, _, _, _, .nil, h => h
  | _, _, _, _, .cons r t, h => .cons r (paired_app t h)
theorem paired_take {α β : Type} {F : α → β → Prop} : ∀ {a : List α} {b : List β} (n : Nat), Paired F a b → Paired F (a.take n) (b.take n)
  | _, _, 0, _ => by
    rw [List.take_zero, List.take_zero]
    exact .nil
  | _, _, n + 1, .nil => .nil
  | _, _, n + 1, .cons r t => .cons r (paired_take n t)
theorem paired_drop {α β : Type} {F : α → β → Prop} : ∀ {a : List α} {b : List β} (n : Nat), Paired F a b → Paired F (a.drop n) (b.drop n)
  | _, _, 0, h => h
  | _, _, n + 1, .nil => .nil
  | _, _, n + 1, .cons r t => paired_drop n t
theorem paired_rev {α β : Type} {F : α → β → Prop} : ∀ {a : List α} {b : List β}, Paired F a b → Paired F a.reverse b.reverse
  | _, _, .nil => .nil
  | _, _, .cons r t => by
    rw [List.reverse_cons, List.reverse_cons]
    exact paired_app (paired_rev t) (.cons r .nil)
theorem paired_get {α β : Type} {F : α → β → Prop} : ∀ {a : List α} {b : List β} {i : Nat} {x : α}, Paired F a b → a[i]? = some x → ∃ y, b[i]? = some y ∧ F x y
  | _, _, _, _, .nil, e => by simp at e
  | _, _, 0, x, .cons r _, e => by
    simp at e
    subst e
    exact ⟨_, rfl, r⟩
  | _, _, i + 1, x, .cons _ t, e => by
    obtain ⟨y, h1, h2⟩ := paired_get (i := i) (x := x) t (by simpa using e)
    exact ⟨y, by simpa using h1, h2⟩
theorem paired_len {α β : Type} {F : α → β → Prop} : ∀ {a : List α} {b : List β}, Paired F a b → a.length = b.length
  | _, _, .nil => rfl
  | _, _, .cons _ t => by
    rw [List.length_cons, List.length_cons, paired_len t]
theorem ivs_len (ns : List Int) : (ivs ns).length = ns.length := List.length_map ..
theorem ivs_get {ns : List Int} {i : Nat} (h : i < ns.length) : (ivs ns)[i]? = some (.int ns[i]) := by
  unfold ivs
  rw [List.getElem?_map, List.getElem?_eq_getElem h]
  rfl
/-- a step of a store of n cells -/
def OkS (n : Nat) : Stp → Prop
  | none => True
  | some (f, ws) => 0 ≤ f ∧ ws ≠ [] ∧ f + (ws.length : Int) ≤ (n : Int) ∧ ∀ z ∈ ws, 0 ≤ z ∧ z < 8
def stl : Stp → Nat
  | none => 0
  | some (_, ws) => ws.length
def tot (l : List Stp) : Nat := (l.map stl).sum
theorem tot_nil : tot [] = 0 := rfl
theorem tot_cons (a : Stp) (b : List Stp) : tot (a :: b) = stl a + tot b := by
  unfold tot
  rw [List.map_cons, List.sum_cons]
theorem tot_app (a b : List Stp) : tot (a ++ b) = tot a + tot b := by
  unfold tot
  rw [List.map_append, List.sum_append]
theorem tot_one (a : Stp) : tot [a] = stl a := by
  rw [tot_cons, tot_nil, Nat.add_zero]
theorem tot_take_drop (l : List Stp) (n : Nat) : tot (l.take n) + tot (l.drop n) = tot l := by
  rw [← tot_app, List.take_append_drop]
theorem tot_rev (l : List Stp) : tot l.reverse = tot l := by
  induction l with
  | nil => rfl
  | cons a l ih => rw [List.reverse_cons, tot_app, tot_one, tot_cons, ih, Nat.add_comm]
/-- a plan that the program takes, with room to spare for s steps and t cells of writes -/
structure Good (s t : Nat) (pl : Pl) : Prop where
  c1 : 1 ≤ pl.cs.length
  c24 : pl.cs.length ≤ 24
  cb : ∀ z ∈ pl.cs, 0 ≤ z ∧ z < 8
  w1 : 1 ≤ pl.w
  w24 : pl.w ≤ 24
  st : ∀ x ∈ pl.sts, OkS pl.cs.length x
  sl : pl.sts.length ≤ s
  tl : tot pl.sts ≤ t
theorem Good.mono {s t s' t' : Nat} {pl : Pl} (g : Good s t pl) (h1 : s ≤ s') (h2 : t ≤ t') : Good s' t' pl := ⟨g.c1, g.c24, g.cb, g.w1, g.w24, g.st, Nat.le_trans g.sl h1, Nat.le_trans g.tl h2⟩
/-! a comprehension whose element is a draw -/
theorem lc_draws {te : TE} {j : Nat} {vs : List Nat} {σ : L2.St} {q : Pn} {m n : Nat} {u : Int} {H : Hp} {R : Addr → Hp → Prop} (hP : Pen q m H) (hn : n ≤ 10000)
    (hw : ∀ x, wipe ((wipe σ vs).set j (some x)) vs = wipe σ vs)
    (hte : ∀ (x : V) (H1 : Hp) (Q : VK) (m1 : Nat), Pen q m1 H1 → m1 < m + n → (∀ d H', 0 ≤ d → d < u → Go q (m1 + 1) H1 H' → Q (.int d) H') → te ((wipe σ vs).set j (some x)) H1 Q)
    (k : ∀ D H' ns, H D = none → Go q (m + n) H H' → H' D = some (.lst (ivs ns)) → ns.length = n → (∀ z ∈ ns, 0 ≤ z ∧ z < u) → R D H') :
    ∀ D, H D = none → ∃ W : Nat → Nat → Hp → Prop, (∃ m, W 0 m (upd H D (.lst []))) ∧ ∀ i m H, W i m H →
      ((Itr 0 n).stop i H ∧ R D H) ∨ ((Itr 0 n).go i H ∧ ∃ Nx : Hp → Prop, (∀ H', Nx H' → ∃ m', m' < m ∧ W (i + 1) m' H') ∧ ∀ x H', (Itr 0 n).yld i H x H' → (gName j) x (wipe σ vs) H' fun σ2 H2 => wipe σ2 vs = wipe σ vs ∧ tYes σ2 H2 fun b H3 =>
        if b = true then te σ2 H3 fun y H4 => ∃ acc, H4 D = some (.lst acc) ∧ acc.length < sizeLine ∧ Nx (upd H4 D (.lst (acc ++ [y]))) else Nx H3) := by
  intro D hD
  refine lc_range (lo := 0) (n := n) (g := gName j) (tt := tYes) (te := te) (vs := vs) (σ := σ) (H1 := H) (D := D) (Qd := fun H' => R D H')
    (fun i H' => ∃ ns, Go q (m + i) H H' ∧ H' D = some (.lst (ivs ns)) ∧ ns.length = i ∧ ∀ z ∈ ns, 0 ≤ z ∧ z < u) ?_ ?_ ?_
  · exact ⟨[], (Go.of hP (same_new hD)), upd_same, rfl, fun z hz => by simp at hz⟩
  · rintro i H' hi ⟨ns, g, hL, hl, hb⟩
    refine ⟨hw _, ?_⟩
    refine hte _ _ _ _ g.pen (by omega) fun d H'' d0 d1 g2 => ?_
    have hD2 : H'' D = some (.lst (ivs ns)) := g2.kp.lst (hP.free hD).1 hL
    refine ⟨_, hD2, by rw [ivs_len, hl]; exact szl (by omega), ns ++ [d], ?_, ?_, by rw [List.length_append, hl]; rfl, fun z hz => ?_⟩
    · exact Go.mut hP hD ((g.trans g2).mono (by omega))
    · rw [upd_same]
      unfold ivs
      rw [List.map_append]
      rfl
    · rcases List.mem_append.mp hz with hz | hz
      · exact hb z hz
      · rw [List.mem_singleton.mp hz]
        exact ⟨d0, d1⟩
  · rintro H' ⟨ns, g, hL, hl, hb⟩
    exact k D H' ns hD g hL hl hb
end Af

set_option Elab.async false
set_option linter.all false
set_option maxRecDepth 100000
namespace Af
open PySem L2
/-! things of any kind, and what they are -/
def tyNames : List String := ["NoneType", "bool", "int", "str", "list", "tuple", "dict"]
def clNames : List String := ["int", "bool", "tuple", "list", "dict", "str"]
def isB (n c : String) : Bool := n == c || (n == "bool" && c == "int")
theorem kit_all : ∀ n ∈ tyNames, ∀ c ∈ clNames, kitB n c = some (isB n c) := by decide +kernel
structure Ty (K : PySem.W.Frag) (H : Hp) (x : V) (n : String) : Prop where
  ty : TyOf K H x (.type n)
  mem : n ∈ tyNames
  nf : ∀ a o u, x = .ref a → H a ≠ some (.frz o u)
def rIsi' (K : PySem.W.Frag) : List V → Hp → VK → Prop := fun xs H Q => ∃ x n c, xs = [x, .ty c] ∧ Ty K H x n ∧ c ∈ clNames ∧ Q (.bl (isB n c)) H
theorem call_isi' {X : Cx} : CallR X (.builtin "isinstance") (rIsi' X.K) := call_imp call_isi fun xs H Q h => by
  obtain ⟨x, n, c, e, t, hc, q⟩ := h
  exact ⟨x, .ty c, _, _, _, e, .ty c, .base t.ty, kit_ty (kit_all n t.mem c hc), q⟩
theorem tyof_at {K : PySem.W.Frag} {H : Hp} {a : Addr} {n : String} (t : TyOf K H (.ref a) (.type n)) : ∃ o, H a = some o := by
  cases t with
  | lst e => exact ⟨_, e⟩
  | frz e => exact ⟨_, e⟩
  | tup e => exact ⟨_, e⟩
  | dK e => exact ⟨_, e⟩
  | dT e => exact ⟨_, e⟩
theorem Ty.same {K : PySem.W.Frag} {H H' : Hp} {x : V} {n : String} (s : Same H H') (t : Ty K H x n) : Ty K H' x n := by
  obtain ⟨t, m, nf⟩ := t
  refine ⟨?_, m, fun a o u e z => ?_⟩
  · cases t with
    | non => exact .non
    | bl b => exact .bl b
    | int i => exact .int i
    | str z => exact .str z
    | lst e => exact .lst (s _ _ e)
    | frz e => exact .frz (s _ _ e)
    | tup e => exact .tup (s _ _ e)
    | dK e => exact .dK (s _ _ e)
    | dT e => exact .dT (s _ _ e)
    | flt z => exact .flt z
  · subst e
    obtain ⟨o', ho⟩ := tyof_at t
    rw [s _ _ ho] at z
    exact nf a o u rfl (ho.trans z)
theorem ty_int {K : PySem.W.Frag} {H : Hp} {x : V} {n : String} (t : Ty K H x n) (h : n = "int") : ∃ i, x = .int i := by
  obtain ⟨t, _, nf⟩ := t
  generalize e : Value.type n = v at t
  subst h
  cases t with
  | int i => exact ⟨i, rfl⟩
  | ins => cases e
  | _ => exact absurd (by injection e) (by decide)
theorem ty_tup {K : PySem.W.Frag} {H : Hp} {x : V} {n : String} (t : Ty K H x n) (h : n = "tuple") : ∃ a xs, x = .ref a ∧ H a = some (.tup xs) := by
  obtain ⟨t, _, nf⟩ := t
  generalize e : Value.type n = v at t
  subst h
  cases t with
  | tup z => exact ⟨_, _, rfl, z⟩
  | ins => cases e
  | _ => exact absurd (by injection e) (by decide)
theorem ty_lst {K : PySem.W.Frag} {H : Hp} {x : V} {n : String} (t : Ty K H x n) (h : n = "list") : ∃ a xs, x = .ref a ∧ H a = some (.lst xs) := by
  obtain ⟨t, _, nf⟩ := t
  generalize e : Value.type n = v at t
  subst h
  cases t with
  | lst z => exact ⟨_, _, rfl, z⟩
  | frz z => exact absurd z (nf _ _ _ rfl)
  | ins => cases e
  | _ => exact absurd (by injection e) (by decide)
theorem no_int {K : PySem.W.Frag} {H : Hp} {x : V} {n : String} (t : Ty K H x n) (h : n ≠ "int") : ∀ i, x ≠ .int i := fun i e => by
  subst e
  cases t.ty with
  | int i => exact h rfl
theorem no_tup {K : PySem.W.Frag} {H : Hp} {x : V} {n : String} (t : Ty K H x n) (h : n ≠ "tuple") : ∀ a xs, x = .ref a → H a ≠ some (.tup xs) := fun a xs e z => by
  subst e
  cases t.ty with
  | tup e => exact h rfl
  | lst e => rw [e] at z; cases z
  | frz e => rw [e] at z; cases z
  | dK e => rw [e] at z; cases z
  | dT e => rw [e] at z; cases z
/-- a thing whose parts are things, to a depth -/
def Th (K : PySem.W.Frag) (H : Hp) : Nat → V → Prop
  | 0, x => ∃ n, Ty K H x n
  | d + 1, x => (∃ n, Ty K H x n) ∧ ∀ a xs, x = .ref a → (H a = some (.tup xs) ∨ H a = some (.lst xs)) → xs.length ≤ 100000 ∧ ∀ y ∈ xs, Th K H d y
theorem Th.ty {K : PySem.W.Frag} {H : Hp} : ∀ {d : Nat} {x : V}, Th K H d x → ∃ n, Ty K H x n
  | 0, _, h => h
  | _ + 1, _, h => h.1
theorem ty_at {K : PySem.W.Frag} {H : Hp} {a : Addr} {n : String} (t : Ty K H (.ref a) n) : ∃ o, H a = some o := tyof_at t.ty
theorem Th.same {K : PySem.W.Frag} {H H' : Hp} (s : Same H H') : ∀ {d : Nat} {x : V}, Th K H d x → Th K H' d x
  | 0, _, ⟨n, h⟩ => ⟨n, h.same s⟩
  | d + 1, x, ⟨⟨n, h⟩, k⟩ => ⟨⟨n, h.same s⟩, fun a xs e z => by
    subst e
    obtain ⟨o, ho⟩ := ty_at h
    have e' := s _ _ ho
    have z' : H a = some (.tup xs) ∨ H a = some (.lst xs) := by
      rcases z with z | z
      · rw [e'] at z
        rw [ho]
        exact .inl z
      · rw [e'] at z
        rw [ho]
        exact .inr z
    exact ⟨(k a xs rfl z').1, fun y hy => ((k a xs rfl z').2 y hy).same s⟩⟩
theorem th_int {K : PySem.W.Frag} {H : Hp} {i : Int} : ∀ {d : Nat}, Th K H d (.int i)
  | 0 => ⟨"int", .int i, by decide, fun _ _ _ e => by cases e⟩
  | _ + 1 => ⟨⟨"int", .int i, by decide, fun _ _ _ e => by cases e⟩, fun a xs e => by cases e⟩
theorem th_non {K : PySem.W.Frag} {H : Hp} : ∀ {d : Nat}, Th K H d .non
  | 0 => ⟨"NoneType", .non, by decide, fun _ _ _ e => by cases e⟩
  | _ + 1 => ⟨⟨"NoneType", .non, by decide, fun _ _ _ e => by cases e⟩, fun a xs e => by cases e⟩
theorem th_tup {K : PySem.W.Frag} {H : Hp} {a : Addr} {xs : List V} (e : H a = some (.tup xs)) (hl : xs.length ≤ 100000) : ∀ {d : Nat}, (∀ y ∈ xs, Th K H d y) → Th K H (d + 1) (.ref a) := fun {d} k =>
  ⟨⟨"tuple", .tup e, by decide, fun b o u z h => by cases z; rw [e] at h; cases h⟩, fun b ys z h => by
    cases z
    rcases h with h | h
    · rw [e] at h
      cases h
      exact ⟨hl, k⟩
    · rw [e] at h
      cases h⟩
theorem th_lst {K : PySem.W.Frag} {H : Hp} {a : Addr} {xs : List V} (e : H a = some (.lst xs)) (hl : xs.length ≤ 100000) : ∀ {d : Nat}, (∀ y ∈ xs, Th K H d y) → Th K H (d + 1) (.ref a) := fun {d} k =>
  ⟨⟨"list", .lst e, by decide, fun b o u z h => by cases z; rw [e] at h; cases h⟩, fun b ys z h => by
    cases z
    rcases h with h | h
    · rw [e] at h
      cases h
    · rw [e] at h
      cases h
      exact ⟨hl, k⟩⟩
/-! what the program's questions answer -/
def idxB (m : Int) : V → Bool
  | .int i => decide (0 ≤ i) && decide (i < m)
  | _ => false
def widthB : V → Bool
  | .int i => decide (1 ≤ i) && decide (i ≤ 24)
  | _ => false
def worthsB (H : Hp) : V → Bool
  | .ref a => match H a with
    | some (.tup xs) => !xs.isEmpty && xs.all (idxB 8)
    | _ => false
  | _ => false
def lenB (H : Hp) : V → Nat
  | .ref a => match H a with
    | some (.tup xs) => xs.length
    | some (.lst xs) => xs.length
    | _ => 0
  | _ => 0
def contentB (H : Hp) (x : V) : Bool := worthsB H x && decide (lenB H x ≤ 24)
def addB (m : Int) (n : Nat) : V → Bool
  | .int i => decide (i + (n : Int) ≤ m)
  | _ => false
def stepB (H : Hp) (m : Int) : V → Bool
  | .non => true
  | .ref a => match H a with
    | some (.tup [f, ws]) => idxB m f && worthsB H ws && addB m (lenB H ws) f
    | _ => false
  | _ => false
def stepsB (H : Hp) (m : Int) : V → Bool
  | .ref a => match H a with
    | some (.lst xs) => xs.all (stepB H m)
    | _ => false
  | _ => false
theorem worths_at {H : Hp} {a : Addr} {xs : List V} (h : H a = some (.tup xs)) : worthsB H (.ref a) = (!xs.isEmpty && xs.all (idxB 8)) := by
  unfold worthsB
  simp only [h]
theorem len_at {H : Hp} {a : Addr} {xs : List V} (h : H a = some (.tup xs)) : lenB H (.ref a) = xs.length := by
  unfold lenB
  simp only [h]
theorem worths_not {K : PySem.W.Frag} {H : Hp} {x : V} {n : String} (t : Ty K H x n) (h : n ≠ "tuple") : worthsB H x = false := by
  have z := no_tup t h
  cases x with
  | ref a =>
    cases e : H a with
    | none => simp only [worthsB, e]
    | some o =>
      cases o with
      | tup xs => exact absurd e (z a xs rfl)
      | _ => simp only [worthsB, e]
  | _ => rfl
theorem worths_same {K : PySem.W.Frag} {H H' : Hp} {x : V} {n : String} (t : Ty K H x n) (s : Same H H') : worthsB H' x = worthsB H x := by
  cases x with
  | ref a =>
    obtain ⟨o, ho⟩ := ty_at t
    simp only [worthsB, ho, s _ _ ho]
  | _ => rfl
theorem len_same {K : PySem.W.Frag} {H H' : Hp} {x : V} {n : String} (t : Ty K H x n) (s : Same H H') : lenB H' x = lenB H x := by
  cases x with
  | ref a =>
    obtain ⟨o, ho⟩ := ty_at t
    simp only [lenB, ho, s _ _ ho]
  | _ => rfl
theorem worths_true {H : Hp} {x : V} (h : worthsB H x = true) : ∃ a xs, x = .ref a ∧ H a = some (.tup xs) ∧ xs ≠ [] ∧ xs.all (idxB 8) = true := by
  cases x with
  | ref a =>
    cases e : H a with
    | none => simp only [worthsB, e] at h; cases h
    | some o =>
      cases o with
      | tup xs =>
        rw [worths_at e, Bool.and_eq_true] at h
        refine ⟨a, xs, rfl, e, fun z => ?_, h.2⟩
        rw [z] at h
        exact absurd h.1 (by decide)
      | _ => simp only [worthsB, e] at h; cases h
  | _ => cases h
theorem int_one : ∀ n ∈ tyNames, isB n "int" = true → (!isB n "bool") = decide (n = "int") := by decide +kernel
theorem int_two : ∀ n ∈ tyNames, isB n "int" = false → decide (n = "int") = false := by decide +kernel
theorem tup_not : ∀ n ∈ tyNames, n ≠ "tuple" → isB n "tuple" = false := by decide +kernel
theorem lst_not : ∀ n ∈ tyNames, n ≠ "list" → isB n "list" = false := by decide +kernel
theorem idx_not {m : Int} {x : V} (h : ∀ i, x ≠ .int i) : idxB m x = false := by
  cases x with
  | int i => exact absurd rfl (h i)
  | _ => rfl
theorem width_not {x : V} (h : ∀ i, x ≠ .int i) : widthB x = false := by
  cases x with
  | int i => exact absurd rfl (h i)
  | _ => rfl
theorem ty_is_lst {K : PySem.W.Frag} {H : Hp} {a : Addr} {n : String} {xs : List V} (t : Ty K H (.ref a) n) (e : H a = some (.lst xs)) : n = "list" := by
  obtain ⟨t, m, nf⟩ := t
  cases t with
  | lst z => rfl
  | frz z => exact absurd z (nf _ _ _ rfl)
  | tup z => rw [e] at z; cases z
  | dK z => rw [e] at z; cases z
  | dT z => rw [e] at z; cases z
theorem step_same {K : PySem.W.Frag} {H H' : Hp} {x : V} {m : Int} (th : Th K H 2 x) (s : Same H H') : stepB H' m x = stepB H m x := by
  cases x with
  | ref a =>
    obtain ⟨n, t⟩ := th.ty
    obtain ⟨o, ho⟩ := ty_at t
    have ho' := s _ _ ho
    cases o with
    | tup xs =>
      match xs, ho, ho' with
      | [], ho, ho' => simp only [stepB, ho, ho']
      | [_], ho, ho' => simp only [stepB, ho, ho']
      | [f, ws], ho, ho' =>
        obtain ⟨n2, t2⟩ := ((th.2 a _ rfl (.inl ho)).2 ws (List.mem_cons_of_mem _ List.mem_cons_self)).ty
        simp only [stepB, ho, ho']
        rw [worths_same t2 s, len_same t2 s]
      | _ :: _ :: _ :: _, ho, ho' => simp only [stepB, ho, ho']
    | _ => simp only [stepB, ho, ho']
  | _ => rfl
end Af

set_option Elab.async false
set_option linter.all false
set_option maxRecDepth 100000
namespace Af
open PySem L2
abbrev s_is_integer : Stmt := top 5
abbrev N_is_integer : List Str := ["thing"]
theorem sc_is_integer : FnScope N_is_integer ["thing"] (defScope s_is_integer) := ⟨rfl, rfl, rfl, by decide +kernel, rfl, by decide +kernel, by decide +kernel⟩

abbrev s_is_index : Stmt := top 6
abbrev N_is_index : List Str := ["thing", "many"]
theorem sc_is_index : FnScope N_is_index ["thing", "many"] (defScope s_is_index) := ⟨rfl, rfl, rfl, by decide +kernel, rfl, by decide +kernel, by decide +kernel⟩

abbrev s_are_worths : Stmt := top 10
abbrev N_are_worths : List Str := ["thing", "part"]
theorem sc_are_worths : FnScope N_are_worths ["thing"] (defScope s_are_worths) := ⟨rfl, rfl, rfl, by decide +kernel, rfl, by decide +kernel, by decide +kernel⟩

abbrev s_is_content : Stmt := top 11
abbrev N_is_content : List Str := ["thing"]
theorem sc_is_content : FnScope N_is_content ["thing"] (defScope s_is_content) := ⟨rfl, rfl, rfl, by decide +kernel, rfl, by decide +kernel, by decide +kernel⟩

abbrev s_is_width : Stmt := top 15
abbrev N_is_width : List Str := ["thing"]
theorem sc_is_width : FnScope N_is_width ["thing"] (defScope s_is_width) := ⟨rfl, rfl, rfl, by decide +kernel, rfl, by decide +kernel, by decide +kernel⟩

abbrev s_is_step : Stmt := top 16
abbrev N_is_step : List Str := ["cells", "thing", "first", "worths"]
theorem sc_is_step : FnScope N_is_step ["cells", "thing"] (defScope s_is_step) := ⟨rfl, rfl, rfl, by decide +kernel, rfl, by decide +kernel, by decide +kernel⟩

abbrev s_are_steps : Stmt := top 21
abbrev N_are_steps : List Str := ["cells", "width", "thing", "step"]
theorem sc_are_steps : FnScope N_are_steps ["cells", "width", "thing"] (defScope s_are_steps) := ⟨rfl, rfl, rfl, by decide +kernel, rfl, by decide +kernel, by decide +kernel⟩

/-- the module's constants -/
structure Cst (K : PySem.W.Frag) (mg : Str → Option Value) : Prop where
  cells : ∃ t, mg "MOST_CELLS" = some (.int 24 t)
  steps : ∃ t, mg "MOST_STEPS" = some (.int 40 t)
  pieces : ∃ t, mg "MOST_PIECES" = some (.int 40 t)
  worths : ∃ a, mg "ALL_WORTHS" = some (.ref a) ∧ ∀ H, SqT K H a (ivs [0, 1, 2, 3, 4, 5, 6, 7])
def sp_is_integer (K : PySem.W.Frag) : Sp := fun vs H Q _ => ∃ x n, vs = [x] ∧ Ty K H x n ∧ Q (.bl (decide (n = "int"))) H
def sp_is_index (K : PySem.W.Frag) : Sp := fun vs H Q _ => ∃ (x : V) (m : Int) (n : String), vs = [x, .int m] ∧ Ty K H x n ∧ Q (.bl (idxB m x)) H
def sp_is_width (K : PySem.W.Frag) : Sp := fun vs H Q _ => ∃ x n, vs = [x] ∧ Ty K H x n ∧ Q (.bl (widthB x)) H
def sp_are_worths (K : PySem.W.Frag) : Sp := fun vs H Q _ => ∃ x, vs = [x] ∧ Th K H 1 x ∧ ∀ H', Same H H' → Q (.bl (worthsB H x)) H'
def sp_is_content (K : PySem.W.Frag) : Sp := fun vs H Q _ => ∃ x, vs = [x] ∧ Th K H 1 x ∧ ∀ H', Same H H' → Q (.bl (contentB H x)) H'
def sp_is_step (K : PySem.W.Frag) : Sp := fun vs H Q _ => ∃ (m : Int) (x : V), vs = [.int m, x] ∧ Th K H 2 x ∧ ∀ H', Same H H' → Q (.bl (stepB H m x)) H'
def sp_are_steps (K : PySem.W.Frag) (spr : Sp) : Sp := fun vs H Q _ => ∃ (m wd : Int) (x : V), vs = [.int m, .int wd, x] ∧ Th K H 3 x ∧ (stepsB H m x = false → ∀ H', Same H H' → Q (.bl false) H') ∧ (stepsB H m x = true → ∀ H', Same H H' → spr [.int wd, x] H' Q E0)
section
variable {P : Program} {w : World} {K : PySem.W.Frag} {mg : Str → Option Value} {base : Heap}
theorem ok_is_integer {f : Addr} {fd : FuncData} (F : Fun K "is_integer" "is_integer" s_is_integer f fd) (T : Txt mg) : FnOk P w K mg base CX0 1 f fd ["thing"] (sp_is_integer K) := by
  refine F.ok sc_is_integer (fun vs H Q E h => ?_) (fun cdv A outer s H vs Q E hr h => ?_)
  · obtain ⟨_, _, rfl, _⟩ := h
    rfl
  obtain ⟨x, n, rfl, t, k⟩ := h
  refine ⟨_, (pss_one (ps_ret (pe_and (pe_callB call_isi' (by rfl) T.isinstance (by decide +kernel) (pa_cons (pv 0) (pa_cons (pe_bltn (v := .ty "int") (by rfl) T.int (by decide +kernel) rfl) pa_nil))) (pe_one (pe_not (pe_callB call_isi' (by rfl) T.isinstance (by decide +kernel) (pa_cons (pv 0) (pa_cons (pe_bltn (v := .ty "bool") (by rfl) T.bool (by decide +kernel) rfl) pa_nil)))))))), ?_⟩
  refine ⟨_, rfl, x, n, "int", rfl, t, by decide, _, rfl, ?_⟩
  cases c : isB n "int" with
  | true =>
    refine ⟨_, rfl, x, n, "bool", rfl, t, by decide, _, rfl, ?_⟩
    rw [int_one n t.mem c]
    exact k
  | false =>
    rw [int_two n t.mem c] at k
    exact k
theorem ok_is_index {f : Addr} {fd : FuncData} (F : Fun K "is_index" "is_index" s_is_index f fd) (T : Txt mg) (c_is_integer : Cal P w K mg base 1 "is_integer" ["thing"] (sp_is_integer K)) : FnOk P w K mg base CX0 2 f fd ["thing", "many"] (sp_is_index K) := by
  refine F.ok sc_is_index (fun vs H Q E h => ?_) (fun cdv A outer s H vs Q E hr h => ?_)
  · obtain ⟨_, _, _, rfl, _⟩ := h
    rfl
  obtain ⟨x, m, n, rfl, t, k⟩ := h
  refine ⟨_, (pss_one (ps_ret (pe_and (pe_cal c_is_integer hr (pa_cons (pv 0) pa_nil)) (pe_one (pe_chain op_le op_lt pe_int (pv 0) (pv 1)))))), ?_⟩
  refine ⟨_, rfl, x, n, rfl, t, _, rfl, ?_⟩
  by_cases c : n = "int"
  · rw [decide_eq_true c]
    obtain ⟨i, rfl⟩ := ty_int t c
    refine ⟨_, rfl, _, _, rfl, rfl, _, rfl, ?_⟩
    have e : idxB m (.int i) = (decide (0 ≤ i) && decide (i < m)) := rfl
    rw [e] at k
    cases c2 : decide ((0 : Int) ≤ i) with
    | true =>
      rw [c2] at k
      exact ⟨_, rfl, _, _, rfl, rfl, k⟩
    | false =>
      rw [c2] at k
      exact k
  · rw [decide_eq_false c]
    rw [idx_not (no_int t c)] at k
    exact k
theorem ok_is_width {f : Addr} {fd : FuncData} (F : Fun K "is_width" "is_width" s_is_width f fd) (T : Txt mg) (C : Cst K mg) (c_is_integer : Cal P w K mg base 1 "is_integer" ["thing"] (sp_is_integer K)) : FnOk P w K mg base CX0 2 f fd ["thing"] (sp_is_width K) := by
  obtain ⟨tk, c_MOST_CELLS⟩ := C.cells
  refine F.ok sc_is_width (fun vs H Q E h => ?_) (fun cdv A outer s H vs Q E hr h => ?_)
  · obtain ⟨_, _, rfl, _⟩ := h
    rfl
  obtain ⟨x, n, rfl, t, k⟩ := h
  refine ⟨_, (pss_one (ps_ret (pe_and (pe_cal c_is_integer hr (pa_cons (pv 0) pa_nil)) (pe_one (pe_chain op_le op_le pe_int (pv 0) (pe_glob (v := .int 24) rfl c_MOST_CELLS ⟨_, rfl⟩)))))), ?_⟩
  refine ⟨_, rfl, x, n, rfl, t, _, rfl, ?_⟩
  by_cases c : n = "int"
  · rw [decide_eq_true c]
    obtain ⟨i, rfl⟩ := ty_int t c
    refine ⟨_, rfl, _, _, rfl, rfl, _, rfl, ?_⟩
    have e : widthB (.int i) = (decide (1 ≤ i) && decide (i ≤ 24)) := rfl
    rw [e] at k
    cases c2 : decide ((1 : Int) ≤ i) with
    | true =>
      rw [c2] at k
      exact ⟨_, _, rfl, rfl, k⟩
    | false =>
      rw [c2] at k
      exact k
  · rw [decide_eq_false c]
    rw [width_not (no_int t c)] at k
    exact k
theorem ok_are_worths {f : Addr} {fd : FuncData} (F : Fun K "are_worths" "are_worths" s_are_worths f fd) (T : Txt mg) (C : Cst K mg) (c_is_index : Cal P w K mg base 2 "is_index" ["thing", "many"] (sp_is_index K)) : FnOk P w K mg base CX0 3 f fd ["thing"] (sp_are_worths K) := by
  obtain ⟨aw, aw_m, aw_s⟩ := C.worths
  refine F.ok sc_are_worths (fun vs H Q E h => ?_) (fun cdv A outer s H vs Q E hr h => ?_)
  · obtain ⟨_, rfl, _⟩ := h
    rfl
  obtain ⟨x, rfl, th, k⟩ := h
  obtain ⟨n, t⟩ := th.ty
  refine ⟨_, (pss_cons (ps_cut (ps_if (PW.pt (pw_or (pt_not (pt_val (pe_callB call_isi' (by rfl) T.isinstance (by decide +kernel) (pa_cons (pv 0) (pa_cons (pe_bltn (v := .ty "tuple") (by rfl) T.tuple (by decide +kernel) rfl) pa_nil))))) (pw_or1 (pt_not (pt_truth (pv 0) (by intro _; rfl))))))
      (pss_one (ps_ret pe_bl))
      pss_nil))
    (pss_one (ps_ret (pe_callB (cr_all rfl) (by rfl) T.all (by decide +kernel) (pa_cons (pe_lc (own := [("part", 1)]) (g := (gName 1)) (tt := tYes) rfl sc_are_worths.nd (pi_tup (pv 0)) (blkOk_by (own := [("part", 1)]) (N := N_are_worths) (sc := defScope s_are_worths) (by decide +kernel)) (fun _ _ _ _ _ => pg_name (i := 1) sc_are_worths.nd rfl (Or.inl rfl)) (fun _ _ _ _ _ => pts_nil) (fun _ _ _ _ _ => (pe_cal c_is_index hr (pa_cons (pv 1) (pa_cons (pe_callB (r := rLenK K) call_lenK (by rfl) T.len (by decide +kernel) (pa_cons (pe_glob (v := .ref aw) rfl aw_m rfl) pa_nil)) pa_nil))))) pa_nil))))), ?_⟩
  refine ⟨fun σ' H' => ∃ a xs, x = .ref a ∧ H a = some (.tup xs) ∧ xs ≠ [] ∧ σ' = [some x, none] ∧ H = H', ?_, ?_⟩
  · refine ⟨_, rfl, x, n, "tuple", rfl, t, by decide, _, rfl, ?_⟩
    by_cases c : n = "tuple"
    · obtain ⟨a, xs, rfl, ha⟩ := ty_tup t c
      have e : (!isB n "tuple") = false := by rw [c]; decide
      rw [e]
      refine ⟨_, rfl, !xs.isEmpty, .inr (.inl ⟨xs, SqT.of ha, rfl⟩), ?_⟩
      cases xs with
      | nil =>
        have z := k H (Same.refl H)
        rw [worths_at ha] at z
        exact z
      | cons y ys => exact ⟨a, _, rfl, ha, by simp, rfl, rfl⟩
    · rw [tup_not n t.mem c]
      have z := k H (Same.refl H)
      rw [worths_not t c] at z
      exact z
  · rintro _ _ ⟨a, xs, rfl, ha, hne, rfl, rfl⟩
    obtain ⟨hl, hy⟩ := th.2 a xs rfl (.inl ha)
    refine ⟨_, rfl, a, rfl, ⟨xs, SqT.of ha⟩, fun D hD => lc_tup (K := K) (a := a) (xs := xs) (fun i H' => Same H H' ∧ H' D = some (.lst ((xs.take i).map fun y => V.bl (idxB 8 y)))) ?_ ?_ ?_ ?_⟩
    · exact ⟨same_new hD, upd_same⟩
    · rintro i H' _ ⟨s1, _⟩
      exact SqT.of (s1 _ _ ha)
    · rintro i y H' hx ⟨s1, h1⟩
      obtain ⟨n1, t1⟩ := (hy y (List.mem_of_getElem? hx)).ty
      have il : i < xs.length := (List.getElem?_eq_some_iff.mp hx).1
      refine ⟨rfl, _, rfl, aw, _, rfl, .inr (aw_s H'), y, 8, n1, rfl, t1.same s1, _, h1, ?_, same_mut s1 hD, ?_⟩
      · rw [List.length_map, List.length_take]
        exact szl (by omega)
      · rw [upd_same, List.take_add_one, hx]
        simp
    · rintro H' ⟨s1, h1⟩
      rw [List.take_length] at h1
      have z := k H' s1
      rw [worths_at ha] at z
      refine ⟨D, xs.map (idxB 8), rfl, SqL.of (by rw [h1, List.map_map]; rfl), ?_⟩
      have e : (!xs.isEmpty && xs.all (idxB 8)) = (xs.map (idxB 8)).all id := by
        cases xs with
        | nil => exact absurd rfl hne
        | cons y ys => simp
      rw [e] at z
      exact z
theorem ok_is_content {f : Addr} {fd : FuncData} (F : Fun K "is_content" "is_content" s_is_content f fd) (T : Txt mg) (C : Cst K mg) (c_are_worths : Cal P w K mg base 3 "are_worths" ["thing"] (sp_are_worths K)) : FnOk P w K mg base CX0 4 f fd ["thing"] (sp_is_content K) := by
  obtain ⟨tk, c_MOST_CELLS⟩ := C.cells
  refine F.ok sc_is_content (fun vs H Q E h => ?_) (fun cdv A outer s H vs Q E hr h => ?_)
  · obtain ⟨_, rfl, _⟩ := h
    rfl
  obtain ⟨x, rfl, th, k⟩ := h
  refine ⟨_, (pss_one (ps_ret (pe_and (pe_cal c_are_worths hr (pa_cons (pv 0) pa_nil)) (pe_one (pe_cmpR op_le (pe_callB call_len' (by rfl) T.len (by decide +kernel) (pa_cons (pv 0) pa_nil)) (pe_glob (v := .int 24) rfl c_MOST_CELLS ⟨_, rfl⟩) (nomark _)))))), ?_⟩
  refine ⟨_, rfl, x, rfl, th, fun H1 s1 => ⟨_, rfl, ?_⟩⟩
  have z := k H1 s1
  unfold contentB at z
  cases c : worthsB H x with
  | true =>
    obtain ⟨a, xs, rfl, ha, _⟩ := worths_true c
    rw [c, len_at ha] at z
    refine ⟨_, rfl, a, xs, rfl, .inr (s1 _ _ ha), _, _, rfl, rfl, ?_⟩
    have e : decide (((xs.length : Nat) : Int) ≤ 24) = decide (xs.length ≤ 24) := decide_eq_decide.mpr (by omega)
    show Q (V.bl (decide (((xs.length : Nat) : Int) ≤ 24))) H1
    rw [e]
    exact z
  | false =>
    rw [c] at z
    exact z
theorem ok_is_step {f : Addr} {fd : FuncData} (F : Fun K "is_step" "is_step" s_is_step f fd) (T : Txt mg) (c_is_index : Cal P w K mg base 2 "is_index" ["thing", "many"] (sp_is_index K)) (c_are_worths : Cal P w K mg base 3 "are_worths" ["thing"] (sp_are_worths K)) : FnOk P w K mg base CX0 4 f fd ["cells", "thing"] (sp_is_step K) := by
  refine F.ok sc_is_step (fun vs H Q E h => ?_) (fun cdv A outer s H vs Q E hr h => ?_)
  · obtain ⟨_, _, rfl, _⟩ := h
    rfl
  obtain ⟨m, x, rfl, th, k⟩ := h
  obtain ⟨n, t⟩ := th.ty
  refine ⟨_, (pss_cons (ps_if (pt_cmpR op_isN (pv 1) pe_non (nomark _))
      (pss_one (ps_ret pe_bl))
      pss_nil)
    (pss_cons (ps_cut (ps_if (PW.pt (pw_or (pt_not (pt_val (pe_callB call_isi' (by rfl) T.isinstance (by decide +kernel) (pa_cons (pv 1) (pa_cons (pe_bltn (v := .ty "tuple") (by rfl) T.tuple (by decide +kernel) rfl) pa_nil))))) (pw_or1 (pt_cmpR op_ne (pe_callB call_len' (by rfl) T.len (by decide +kernel) (pa_cons (pv 1) pa_nil)) pe_int (nomark _)))))
      (pss_one (ps_ret pe_bl))
      pss_nil))
    (pss_cons (ps_asg (pv 1) (pg_tup rfl (pgs_cons (pg_name (i := 2) sc_is_step.nd rfl (Or.inl rfl)) (pgs_cons (pg_name (i := 3) sc_is_step.nd rfl (Or.inl rfl)) pgs_nil))))
    (pss_one (ps_ret (pe_and (pe_cal c_is_index hr (pa_cons (pv 2) (pa_cons (pv 0) pa_nil))) (pe_and (pe_cal c_are_worths hr (pa_cons (pv 3) pa_nil)) (pe_one (pe_cmpR op_le (pe_op op_add (pv 2) (pe_callB call_len' (by rfl) T.len (by decide +kernel) (pa_cons (pv 3) pa_nil))) (pv 0) (nomark _)))))))))), ?_⟩
  refine ⟨_, rfl, rfl, _, rfl, ite2 (fun c0 => ?_) (fun c0 => ?_)⟩
  · have e : x = .non := of_decide_eq_true c0
    subst e
    exact k H (Same.refl H)
  have xn : x ≠ .non := fun e => c0 (decide_eq_true e)
  refine ⟨fun σ' H' => ∃ a f ws, x = .ref a ∧ H a = some (.tup [f, ws]) ∧ σ' = [some (.int m), some x, none, none] ∧ H = H', ?_, ?_⟩
  · refine ⟨_, rfl, x, n, "tuple", rfl, t, by decide, _, rfl, ?_⟩
    by_cases c : n = "tuple"
    · obtain ⟨a, xs, rfl, ha⟩ := ty_tup t c
      have e : (!isB n "tuple") = false := by rw [c]; decide
      rw [e]
      refine ⟨_, rfl, a, xs, rfl, .inr ha, rfl, _, rfl, ite2 (fun c => ?_) (fun c => ?_)⟩
      · have z := k H (Same.refl H)
        have e2 : stepB H m (.ref a) = false := by
          unfold stepB
          simp only [ha]
          split
          · rename_i f ws e3
            cases e3
            exact absurd c (by show ¬ (!decide (V.int 2 = V.int 2)) = true; decide)
          · rfl
        rw [e2] at z
        exact z
      · have hl : xs.length = 2 := by
          have c' : ¬ (!decide (V.int ((xs.length : Nat) : Int) = V.int 2)) = true := c
          by_cases q : xs.length = 2
          · exact q
          · refine absurd ?_ c'
            rw [decide_eq_false (fun e => q (by injection e; omega))]
            rfl
        match xs, hl with
        | [f, ws], _ => exact ⟨a, f, ws, rfl, ha, rfl, rfl⟩
    · rw [tup_not n t.mem c]
      have z := k H (Same.refl H)
      have e2 : stepB H m x = false := by
        have z2 := no_tup t c
        cases x with
        | non => exact absurd rfl xn
        | ref a =>
          unfold stepB
          simp only
          split
          · rename_i e3
            exact absurd e3 (z2 a _ rfl)
          · rfl
        | _ => rfl
      rw [e2] at z
      exact z
  · rintro _ _ ⟨a, f, ws, rfl, ha, rfl, rfl⟩
    obtain ⟨hl, hy⟩ := th.2 a _ rfl (.inl ha)
    obtain ⟨n1, t1⟩ := (hy f (List.mem_cons_self)).ty
    have th2 := hy ws (List.mem_cons_of_mem _ List.mem_cons_self)
    have e2 : stepB H m (.ref a) = (idxB m f && worthsB H ws && addB m (lenB H ws) f) := by
      unfold stepB
      simp only [ha]
    refine ⟨_, rfl, a, _, rfl, SqT.of ha, rfl, _, _, rfl, _, _, rfl, rfl, ?_⟩
    refine ⟨_, rfl, _, rfl, f, m, n1, rfl, t1, _, rfl, ?_⟩
    rw [e2] at k
    cases c1 : idxB m f with
    | false =>
      rw [c1] at k
      exact k H (Same.refl H)
    | true =>
      rw [c1] at k
      refine ⟨_, rfl, ws, rfl, th2, fun H1 s1 => ⟨_, rfl, ?_⟩⟩
      have z := k H1 s1
      cases c2 : worthsB H ws with
      | false =>
        rw [c2] at z
        exact z
      | true =>
        rw [c2] at z
        obtain ⟨b, ys, rfl, hb, _⟩ := worths_true c2
        rw [len_at hb] at z
        cases f with
        | int i => exact ⟨_, rfl, _, rfl, b, ys, rfl, .inr (s1 _ _ hb), _, _, rfl, rfl, _, rfl, _, _, rfl, rfl, z⟩
        | _ => cases c1
theorem ok_are_steps {f : Addr} {fd : FuncData} {spr : Sp} (F : Fun K "are_steps" "are_steps" s_are_steps f fd) (T : Txt mg) (c_is_step : Cal P w K mg base 4 "is_step" ["cells", "thing"] (sp_is_step K)) (c_is_room : Cal P w K mg base 3 "is_room" ["width", "steps"] spr) : FnOk P w K mg base CX0 5 f fd ["cells", "width", "thing"] (sp_are_steps K spr) := by
  refine F.ok sc_are_steps (fun vs H Q E h => ?_) (fun cdv A outer s H vs Q E hr h => ?_)
  · obtain ⟨_, _, _, rfl, _⟩ := h
    rfl
  obtain ⟨m, wd, x, rfl, th, k0, k1⟩ := h
  obtain ⟨n, t⟩ := th.ty
  refine ⟨_, (pss_cons (ps_cut (ps_if (PW.pt (pw_or (pt_not (pt_val (pe_callB call_isi' (by rfl) T.isinstance (by decide +kernel) (pa_cons (pv 2) (pa_cons (pe_bltn (v := .ty "list") (by rfl) T.list (by decide +kernel) rfl) pa_nil))))) (pw_or1 (pt_not (pt_val (pe_callB (cr_all rfl) (by rfl) T.all (by decide +kernel) (pa_cons (pe_lc (own := [("step", 3)]) (g := (gName 3)) (tt := tYes) rfl sc_are_steps.nd (pi_list (pv 2)) (blkOk_by (own := [("step", 3)]) (N := N_are_steps) (sc := defScope s_are_steps) (by decide +kernel)) (fun _ _ _ _ _ => pg_name (i := 3) sc_are_steps.nd rfl (Or.inl rfl)) (fun _ _ _ _ _ => pts_nil) (fun _ _ _ _ _ => (pe_cal c_is_step hr (pa_cons (pv 0) (pa_cons (pv 3) pa_nil))))) pa_nil)))))))
      (pss_one (ps_ret pe_bl))
      pss_nil))
    (pss_one (ps_ret (pe_cal c_is_room hr (pa_cons (pv 1) (pa_cons (pv 2) pa_nil)))))), ?_⟩
  refine ⟨fun σ' H' => stepsB H m x = true ∧ σ' = [some (.int m), some (.int wd), some x, none] ∧ Same H H', ?_, ?_⟩
  · refine ⟨_, rfl, x, n, "list", rfl, t, by decide, _, rfl, ?_⟩
    by_cases c : n = "list"
    · obtain ⟨a, xs, rfl, ha⟩ := ty_lst t c
      obtain ⟨hl, hy⟩ := th.2 a xs rfl (.inr ha)
      have e : isB n "list" = true := by rw [c]; decide
      rw [e]
      refine ⟨_, rfl, a, rfl, ⟨xs, SqL.of ha⟩, fun D hD => lc_list (K := K) (a := a) (xs := xs) (fun i H' => Same H H' ∧ H' D = some (.lst ((xs.take i).map fun y => V.bl (stepB H m y)))) ?_ ?_ ?_ ?_⟩
      · exact ⟨same_new hD, upd_same⟩
      · rintro i H' _ ⟨s1, _⟩
        exact SqL.of (s1 _ _ ha)
      · rintro i y H' hx ⟨s1, h1⟩
        have th2 := hy y (List.mem_of_getElem? hx)
        have il : i < xs.length := (List.getElem?_eq_some_iff.mp hx).1
        refine ⟨rfl, _, rfl, _, rfl, m, y, rfl, th2.same s1, fun H2 s2 => ⟨_, s2 _ _ h1, ?_, same_mut (s1.trans s2) hD, ?_⟩⟩
        · rw [List.length_map, List.length_take]
          exact szl (by omega)
        · rw [upd_same, List.take_add_one, hx, step_same th2 s1]
          simp
      · rintro H' ⟨s1, h1⟩
        rw [List.take_length] at h1
        have e2 : stepsB H m (.ref a) = (xs.map (stepB H m)).all id := by
          unfold stepsB
          simp only [ha]
          simp
        refine ⟨D, xs.map (stepB H m), rfl, SqL.of (by rw [h1, List.map_map]; rfl), ?_⟩
        rw [← e2]
        refine ⟨_, rfl, ?_⟩
        cases e3 : stepsB H m (.ref a) with
        | true => exact iteF ⟨rfl, rfl, s1⟩
        | false => exact iteT (k0 e3 H' s1)
    · rw [lst_not n t.mem c]
      have e2 : stepsB H m x = false := by
        cases x with
        | ref a =>
          unfold stepsB
          simp only
          split
          · rename_i e3
            exact absurd (ty_is_lst t e3) c
          · rfl
        | _ => rfl
      exact k0 e2 H (Same.refl H)
  · rintro _ H1 ⟨e3, rfl, s1⟩
    exact ⟨_, rfl, _, rfl, k1 e3 H1 s1⟩
end
end Af

set_option Elab.async false
set_option linter.all false
set_option maxRecDepth 100000
namespace Af
open PySem L2
/-! a comprehension over zip, a for over enumerate, lists that stand still -/
theorem lc_zip {K : PySem.W.Frag} {a b : Addr} {xs ys : List V} {g : TG} {tt : TT} {te : TE} {vs : List Nat} {σ : L2.St} {H1 : Hp} {D : Addr} {Qd : Hp → Prop} (hl : xs.length = ys.length) (Pv : Nat → Hp → Prop)
    (h0 : Pv 0 (upd H1 D (.lst [])))
    (hq : ∀ i H, i ≤ xs.length → Pv i H → SqL K H a xs ∧ SqL K H b ys)
    (hs : ∀ (i : Nat) (x y : V) (T : Addr) (H : Hp), xs[i]? = some x → ys[i]? = some y → Pv i H → H T = none → g (.ref T) (wipe σ vs) (upd H T (.tup [x, y])) fun σ2 H2 => wipe σ2 vs = wipe σ vs ∧ tt σ2 H2 fun b H3 =>
      if b = true then te σ2 H3 fun y H4 => ∃ acc, H4 D = some (.lst acc) ∧ acc.length < sizeLine ∧ Pv (i + 1) (upd H4 D (.lst (acc ++ [y]))) else Pv (i + 1) H3)
    (hd : ∀ H, Pv xs.length H → Qd H) :
    ∃ W : Nat → Nat → Hp → Prop, (∃ m, W 0 m (upd H1 D (.lst []))) ∧ ∀ i m H, W i m H →
      ((Itz K a b).stop i H ∧ Qd H) ∨ ((Itz K a b).go i H ∧ ∃ Nx : Hp → Prop, (∀ H', Nx H' → ∃ m', m' < m ∧ W (i + 1) m' H') ∧ ∀ x H', (Itz K a b).yld i H x H' → g x (wipe σ vs) H' fun σ2 H2 => wipe σ2 vs = wipe σ vs ∧ tt σ2 H2 fun b H3 =>
        if b = true then te σ2 H3 fun y H4 => ∃ acc, H4 D = some (.lst acc) ∧ acc.length < sizeLine ∧ Nx (upd H4 D (.lst (acc ++ [y]))) else Nx H3) := by
  refine ⟨fun i m H => m = xs.length - i ∧ i ≤ xs.length ∧ Pv i H, ⟨xs.length, rfl, Nat.zero_le _, h0⟩, fun i m H z => ?_⟩
  obtain ⟨em, hi, p⟩ := z
  subst em
  obtain ⟨q1, q2⟩ := hq i H hi p
  by_cases hlt : i < xs.length
  · have hlt2 : i < ys.length := hl ▸ hlt
    refine .inr ⟨⟨xs, ys, xs[i], ys[i], q1, q2, List.getElem?_eq_getElem hlt, List.getElem?_eq_getElem hlt2⟩, Pv (i + 1), fun H' p' => ⟨xs.length - (i + 1), by omega, rfl, hlt, p'⟩, fun v H' y => ?_⟩
    obtain ⟨T, x, y', e1, hT, e2, hx, hy⟩ := y
    subst e1 e2
    exact hs i x y' T H (hx xs q1) (hy ys q2) p hT
  · have e : i = xs.length := Nat.le_antisymm hi (Nat.le_of_not_lt hlt)
    subst e
    exact .inl ⟨⟨xs, ys, q1, q2, .inl (Nat.le_refl _)⟩, hd H p⟩
theorem for_enum {K : PySem.W.Frag} {a : Addr} {xs : List V} {g : TG} {tb : TS} {D : Ends} {σ : L2.St} {H : Hp} (Pv : Nat → L2.St → Hp → Prop) (h0 : Pv 0 σ H)
    (hq : ∀ i σ H, i ≤ xs.length → Pv i σ H → SqL K H a xs)
    (hs : ∀ (i : Nat) (x : V) (T : Addr) (σ : L2.St) (H : Hp), xs[i]? = some x → Pv i σ H → H T = none → g (.ref T) σ (upd H T (.tup [.int (i : Nat), x])) fun σ2 H2 => tb { D with nx := Pv (i + 1), ct := Pv (i + 1), bk := D.nx } σ2 H2)
    (hd : ∀ σ H, Pv xs.length σ H → D.nx σ H) :
    ∃ W : Nat → Nat → L2.St → Hp → Prop, (∃ m, W 0 m σ H) ∧ ∀ i m σ H, W i m σ H →
      ((Ite K a).stop i H ∧ D.nx σ H) ∨ ((Ite K a).go i H ∧ ∃ N : L2.St → Hp → Prop, (∀ σ' H', N σ' H' → ∃ m', m' < m ∧ W (i + 1) m' σ' H') ∧ ∀ v H', (Ite K a).yld i H v H' → g v σ H' fun σ2 H2 => tb { D with nx := N, ct := N, bk := D.nx } σ2 H2) := by
  refine ⟨fun i m σ H => m = xs.length - i ∧ i ≤ xs.length ∧ Pv i σ H, ⟨xs.length, rfl, Nat.zero_le _, h0⟩, fun i m σ H z => ?_⟩
  obtain ⟨em, hi, p⟩ := z
  subst em
  have q1 := hq i σ H hi p
  by_cases hlt : i < xs.length
  · refine .inr ⟨⟨xs, xs[i], q1, List.getElem?_eq_getElem hlt⟩, Pv (i + 1), fun σ' H' p' => ⟨xs.length - (i + 1), by omega, rfl, hlt, p'⟩, fun v H' y => ?_⟩
    obtain ⟨T, x, e1, hT, e2, hx⟩ := y
    subst e1 e2
    exact hs i x T σ H (hx xs q1) p hT
  · have e : i = xs.length := Nat.le_antisymm hi (Nat.le_of_not_lt hlt)
    subst e
    exact .inl ⟨⟨xs, q1, Nat.le_refl _⟩, hd σ H p⟩
theorem int_at {ns : List Int} {i : Nat} {x : V} (h : (ivs ns)[i]? = some x) : ∃ z, x = .int z := by
  unfold ivs at h
  rw [List.getElem?_map] at h
  cases e : ns[i]? with
  | none =>
    rw [e] at h
    cases h
  | some z =>
    rw [e] at h
    exact ⟨z, (Option.some.inj h).symm⟩
end Af

set_option Elab.async false
set_option linter.all false
set_option maxRecDepth 100000
set_option maxHeartbeats 4000000
namespace Af
open PySem L2
abbrev s_broken : Stmt := top 19
abbrev N_broken : List Str := ["width", "index", "write", "first", "worths", "behind", "cuts", "starts", "ends", "cell", "start", "end"]
theorem sc_broken : FnScope N_broken ["width", "index", "write"] (defScope s_broken) := ⟨rfl, rfl, rfl, by decide +kernel, rfl, by decide +kernel, by decide +kernel⟩

abbrev s_pieces_of : Stmt := top 18
abbrev N_pieces_of : List Str := ["width", "steps", "pieces", "index", "step"]
theorem sc_pieces_of : FnScope N_pieces_of ["width", "steps"] (defScope s_pieces_of) := ⟨rfl, rfl, rfl, by decide +kernel, rfl, by decide +kernel, by decide +kernel⟩

abbrev s_epochs_of : Stmt := top 20
abbrev N_epochs_of : List Str := ["steps", "epochs", "barriers", "step"]
theorem sc_epochs_of : FnScope N_epochs_of ["steps"] (defScope s_epochs_of) := ⟨rfl, rfl, rfl, by decide +kernel, rfl, by decide +kernel, by decide +kernel⟩

abbrev s_is_room : Stmt := top 17
abbrev N_is_room : List Str := ["width", "steps"]
theorem sc_is_room : FnScope N_is_room ["width", "steps"] (defScope s_is_room) := ⟨rfl, rfl, rfl, by decide +kernel, rfl, by decide +kernel, by decide +kernel⟩

def sp_broken : Sp := fun vs H Q _ => ∃ (wd ix f : Int) (t b : Addr) (ws : List Int), vs = [.int wd, .int ix, .ref t] ∧ H t = some (.tup [.int f, .ref b]) ∧ H b = some (.tup (ivs ws)) ∧ 0 < wd ∧ 0 ≤ f ∧ f ≤ 1000 ∧ ws ≠ [] ∧ ws.length ≤ 100 ∧
  ∀ l H' xs, Same H H' → H l = none → H' l = some (.lst xs) → xs.length ≤ ws.length → (∀ x ∈ xs, ∃ t' y z, x = V.ref t' ∧ H' t' = some (.tup [.int ix, y, z])) → Q (.ref l) H'
/-- pieces, told by the step that each is of -/
def PieceV (H : Hp) (n : Nat) (x : V) : Prop := ∃ (t : Addr) (j : Nat) (y z : V), x = .ref t ∧ j < n ∧ H t = some (.tup [.int (j : Int), y, z])
theorem PieceV.same {H H' : Hp} {n : Nat} {x : V} (s : Same H H') (h : PieceV H n x) : PieceV H' n x := by
  obtain ⟨t, j, y, z, e, hj, h⟩ := h
  exact ⟨t, j, y, z, e, hj, s _ _ h⟩
def sp_pieces : Sp := fun vs H Q _ => ∃ (wd : Int) (a : Addr) (xs : List V) (sts : List Stp), vs = [.int wd, .ref a] ∧ H a = some (.lst xs) ∧ Paired (StepV H) xs sts ∧ 0 < wd ∧ xs.length ≤ 100 ∧ (∀ x ∈ sts, OkS 24 x) ∧
  ∀ l H' ys, Same H H' → H l = none → H' l = some (.lst ys) → ys.length ≤ tot sts → (∀ y ∈ ys, PieceV H' xs.length y) → Q (.ref l) H'
def sp_epochs : Sp := fun vs H Q _ => ∃ (a : Addr) (xs : List V), vs = [.ref a] ∧ H a = some (.lst xs) ∧ xs.length ≤ 100 ∧ ∀ l H' es, Same H H' → H l = none → H' l = some (.lst (ivs es)) → es.length = xs.length → Q (.ref l) H'
def sp_room : Sp := fun vs H Q _ => ∃ (wd : Int) (a : Addr) (xs : List V) (sts : List Stp), vs = [.int wd, .ref a] ∧ H a = some (.lst xs) ∧ Paired (StepV H) xs sts ∧ 0 < wd ∧ xs.length ≤ 40 ∧ (∀ x ∈ sts, OkS 24 x) ∧ tot sts ≤ 40 ∧
  ∀ H', Same H H' → Q (.bl true) H'
section
variable {P : Program} {w : World} {K : PySem.W.Frag} {mg : Str → Option Value} {base : Heap}
theorem ok_broken {f : Addr} {fd : FuncData} (F : Fun K "_broken" "_broken" s_broken f fd) (T : Txt mg) : FnOk P w K mg base CX0 1 f fd ["width", "index", "write"] sp_broken := by
  refine F.ok sc_broken (fun vs H Q E h => ?_) (fun cdv A outer s H vs Q E hr h => ?_)
  · obtain ⟨_, _, _, _, _, _, rfl, _⟩ := h
    rfl
  obtain ⟨wd, ix, f, t, b, ws, rfl, ht, hb, w0, f0, f1, wn, wl, k⟩ := h
  refine ⟨_, (pss_cons (ps_asg (pv 2) (pg_tup rfl (pgs_cons (pg_name (i := 3) sc_broken.nd rfl (Or.inr rfl)) (pgs_cons (pg_name (i := 4) sc_broken.nd rfl (Or.inr rfl)) pgs_nil))))
    (pss_cons (ps_set (i := 5) sc_broken.nd rfl (Or.inl rfl) (pe_op op_add (pv 3) (pe_callB call_len' (by rfl) T.len (by decide +kernel) (pa_cons (pv 4) pa_nil))))
    (pss_cons (ps_setLc (i := 6) (own := [("cell", 9)]) (g := (gName 9)) rfl sc_broken.nd rfl rfl (sw_true rfl rfl rfl (by decide +kernel)) (pi_range2 rfl T.range (pa_cons (pe_op op_add (pv 3) pe_int) (pa_cons (pv 5) pa_nil))) (blkOk_by (own := [("cell", 9)]) (N := N_broken) (sc := defScope s_broken) (by decide +kernel)) (fun _ _ _ _ _ => pg_name (i := 9) sc_broken.nd rfl (Or.inl rfl)) (fun _ _ _ _ _ => (pts_one (pt_cmpR op_eq (pe_op op_mod (pv 9) (pv 0)) pe_int (nomark _)))) (fun _ _ _ _ _ => (pv 9)))
    (pss_cons (ps_par (i := 7) (j := 8) rfl sc_broken.nd rfl rfl (by decide) rfl rfl (pa_cons (pe_op op_cat' (pe_lst' (pa_cons (pv 3) pa_nil)) (pv 6)) (pa_cons (pe_op op_cat' (pv 6) (pe_lst' (pa_cons (pv 5) pa_nil))) pa_nil)) (by rfl))
    (pss_one (ps_ret (pe_lc (own := [("start", 10), ("end", 11)]) (g := (gTup K 2 (gCons (gName 10) (gCons (gName 11) gNil)))) (tt := tYes) rfl sc_broken.nd (pi_zip rfl T.zip (pa_cons (pv 7) (pa_cons (pv 8) pa_nil))) (blkOk_by (own := [("start", 10), ("end", 11)]) (N := N_broken) (sc := defScope s_broken) (by decide +kernel)) (fun _ _ _ _ _ => pg_tup rfl (pgs_cons (pg_name (i := 10) sc_broken.nd rfl (Or.inl rfl)) (pgs_cons (pg_name (i := 11) sc_broken.nd rfl (Or.inl rfl)) pgs_nil))) (fun _ _ _ _ _ => pts_nil) (fun _ _ _ _ _ => (pe_tup' (pa_cons (pv 1) (pa_cons (pv 10) (pa_cons (pe_slice sl_tup' (pv 4) (po_some (pe_op op_sub (pv 10) (pv 3))) (po_some (pe_op op_sub (pv 11) (pv 3)))) pa_nil)))))))))))), ?_⟩
  refine ⟨_, rfl, t, _, rfl, SqT.of ht, rfl, _, _, rfl, _, _, rfl, rfl, ?_⟩
  refine ⟨_, rfl, _, rfl, b, _, rfl, .inr hb, _, _, rfl, rfl, ?_⟩
  have hln := ivs_len ws
  have hpos : 0 < ws.length := List.length_pos_iff.mpr wn
  refine ⟨_, rfl, _, _, rfl, rfl, _, rfl, f + 1, f + ((ivs ws).length : Int), rfl, ⟨by omega, by omega, by omega, by omega⟩, fun D hD => lc_range (lo := f + 1) (n := (f + ((ivs ws).length : Int) - (f + 1)).toNat) (fun i H' => Same H H' ∧ ∃ cs, H' D = some (.lst (ivs cs)) ∧ cs.length ≤ i) ?_ ?_ ?_⟩
  · exact ⟨same_new hD, [], upd_same, Nat.le_refl _⟩
  · rintro i H' hi ⟨s1, cs, h1, l1⟩
    refine ⟨rfl, _, rfl, _, rfl, _, _, rfl, rfl, w0, rfl, _, rfl, ite2 (fun _ => ?_) (fun _ => ⟨s1, cs, h1, by omega⟩)⟩
    refine ⟨_, rfl, _, h1, szl (by rw [ivs_len]; omega), same_mut s1 hD, cs ++ [f + 1 + (i : Int)], ?_, by rw [List.length_append]; show cs.length + 1 ≤ i + 1; omega⟩
    rw [upd_same]
    unfold ivs
    rw [List.map_append]
    rfl
  · rintro H1 ⟨s1, cs, h1, l1⟩
    refine ⟨_, rfl, szr, fun l2 H2 hl2 s2 h2 => ⟨_, rfl, l2, D, _, _, rfl, rfl, h2, s2 _ _ h1, sz (by show 1 + (ivs cs).length ≤ 100000; rw [ivs_len]; omega), fun sl H3 hsl s3 h3 => ?_⟩⟩
    refine ⟨_, rfl, _, rfl, szr, fun l4 H4 hl4 s4 h4 => ⟨D, l4, _, _, rfl, rfl, s4 _ _ (s3 _ _ (s2 _ _ h1)), h4, sz (by show (ivs cs).length + 1 ≤ 100000; rw [ivs_len]; omega), fun el H5 hel s5 h5 => ⟨_, _, rfl, ?_⟩⟩⟩
    have S := s1.trans (s2.trans (s3.trans (s4.trans s5)))
    have hs5 : H5 sl = some (.lst (ivs (f :: cs))) := s5 _ _ (s4 _ _ h3)
    have he5 : H5 el = some (.lst (ivs (cs ++ [f + ((ivs ws).length : Int)]))) := by
      rw [h5]
      unfold ivs
      rw [List.map_append]
      rfl
    have hll : (ivs (f :: cs)).length = (ivs (cs ++ [f + ((ivs ws).length : Int)])).length := by
      rw [ivs_len, ivs_len, List.length_append]
      rfl
    refine ⟨_, rfl, _, rfl, sl, el, _, _, rfl, SqL.of hs5, SqL.of he5, fun R hR => lc_zip hll (fun i H' => Same H5 H' ∧ ∃ xs, H' R = some (.lst xs) ∧ xs.length = i ∧ ∀ x ∈ xs, ∃ t' y z, x = V.ref t' ∧ H' t' = some (.tup [.int ix, y, z])) ?_ ?_ ?_ ?_⟩
    · exact ⟨same_new hR, [], upd_same, rfl, fun x hx => by simp at hx⟩
    · rintro i H' hi ⟨s6, _⟩
      exact ⟨SqL.of (s6 _ _ hs5), SqL.of (s6 _ _ he5)⟩
    · rintro i x y T' H' hx hy ⟨s6, xs, h6, l6, p6⟩ hT
      have hi : i < (ivs (f :: cs)).length := (List.getElem?_eq_some_iff.mp hx).1
      have hc : (ivs (f :: cs)).length = cs.length + 1 := by rw [ivs_len]; rfl
      obtain ⟨zx, rfl⟩ := int_at hx
      obtain ⟨zy, rfl⟩ := int_at hy
      have s7 : Same H' (upd H' T' (.tup [.int zx, .int zy])) := same_new hT
      have b7 := s7 _ _ (s6 _ _ (S _ _ hb))
      refine ⟨T', _, rfl, SqT.of upd_same, rfl, _, _, rfl, _, _, rfl, rfl, rfl, ?_⟩
      refine ⟨_, rfl, _, rfl, _, rfl, _, rfl, _, rfl, _, _, rfl, rfl, _, rfl, _, rfl, _, rfl, _, _, rfl, rfl, _, rfl, b, _, rfl, b7, fun u H8 s8 h8 => ⟨szr, fun r H9 hr9 s9 h9 => ?_⟩⟩
      have s10 := s7.trans (s8.trans s9)
      refine ⟨xs, s10 _ _ h6, szl (by omega), same_mut (s6.trans s10) hR, _, upd_same, by rw [List.length_append, l6]; rfl, fun x hx => ?_⟩
      rcases List.mem_append.mp hx with hx | hx
      · obtain ⟨t', y', z', e, h10⟩ := p6 x hx
        have nt : t' ≠ R := ne_of h10 h6 (by intro q; cases q)
        exact ⟨t', y', z', e, by rw [upd_ne nt]; exact s10 _ _ h10⟩
      · rw [List.mem_singleton.mp hx]
        have nt : r ≠ R := ne_of h9 (s10 _ _ h6) (by intro q; cases q)
        exact ⟨r, _, _, rfl, by rw [upd_ne nt]; exact h9⟩
    · rintro H' ⟨s6, xs, h6, l6, p6⟩
      have hc : (ivs (f :: cs)).length = cs.length + 1 := by rw [ivs_len]; rfl
      exact k R H' xs (S.trans s6) (S.free hR) h6 (by omega) p6
theorem ok_pieces {f : Addr} {fd : FuncData} (F : Fun K "_pieces_of" "_pieces_of" s_pieces_of f fd) (T : Txt mg) (c_broken : Cal P w K mg base 1 "_broken" ["width", "index", "write"] sp_broken) : FnOk P w K mg base CX0 2 f fd ["width", "steps"] sp_pieces := by
  refine F.ok sc_pieces_of (fun vs H Q E h => ?_) (fun cdv A outer s H vs Q E hr h => ?_)
  · obtain ⟨_, _, _, _, rfl, _⟩ := h
    rfl
  obtain ⟨wd, a, xs, sts, rfl, ha, hst, w0, xl, ok, k⟩ := h
  refine ⟨_, (pss_cons (ps_set (i := 2) sc_pieces_of.nd rfl (Or.inl rfl) (pe_lst' pa_nil))
    (pss_cons (ps_for PassesOwn.never rfl (pi_enum rfl T.enumerate (pa_cons (pv 1) pa_nil)) (pg_tup rfl (pgs_cons (pg_name (i := 3) sc_pieces_of.nd rfl (Or.inl rfl)) (pgs_cons (pg_name (i := 4) sc_pieces_of.nd rfl (Or.inl rfl)) pgs_nil)))
      (pss_one (ps_if (pt_cmpR op_notN (pv 4) pe_non (nomark _))
      (pss_one (ps_expr (pe_bm PySem.F.plainAttrs_list PySem.F.slot_list_extend PySem.F.type_list_extend mt_extend (pv 2) (pa_cons (pe_cal c_broken hr (pa_cons (pv 0) (pa_cons (pv 3) (pa_cons (pv 4) pa_nil)))) pa_nil))))
      pss_nil)))
    (pss_one (ps_ret (pv 2))))), ?_⟩
  refine ⟨szr, fun pl H1 hpl s1 h1 => ?_⟩
  have hlen := paired_len hst
  refine ⟨_, rfl, a, xs, rfl, SqL.of (s1 _ _ ha), for_enum (K := K) (a := a) (xs := xs) (fun i σ' H' => ∃ ys v1 v2, σ' = [some (.int wd), some (.ref a), some (.ref pl), v1, v2] ∧ Same H H' ∧ H' pl = some (.lst ys) ∧ ys.length ≤ tot (sts.take i) ∧ ys.length ≤ i * 24 ∧ ∀ y ∈ ys, PieceV H' xs.length y) ?_ ?_ ?_ ?_⟩
  · exact ⟨[], none, none, rfl, s1, h1, Nat.zero_le _, Nat.zero_le _, fun y hy => by simp at hy⟩
  · rintro i σ' H' hi ⟨ys, v1, v2, rfl, s2, _⟩
    exact SqL.of (s2 _ _ ha)
  · rintro i x T' σ' H' hx ⟨ys, v1, v2, rfl, s2, h2, l2, l3, p2⟩ hT
    have hi : i < xs.length := (List.getElem?_eq_some_iff.mp hx).1
    obtain ⟨st, hs1, hs2⟩ := paired_get hst hx
    have s3 : Same H' (upd H' T' (.tup [.int (i : Nat), x])) := same_new hT
    have tk : tot (sts.take (i + 1)) = tot (sts.take i) + stl st := by
      rw [List.take_add_one, hs1, tot_app]
      show _ + tot [st] = _
      rw [tot_one]
    refine ⟨T', _, rfl, SqT.of upd_same, rfl, _, _, rfl, _, _, rfl, rfl, ?_⟩
    cases st with
    | none =>
      have e : x = .non := hs2
      subst e
      exact ⟨_, rfl, rfl, _, rfl, ys, _, _, rfl, s2.trans s3, s3 _ _ h2, by omega, by omega, fun y hy => (p2 y hy).same s3⟩
    | some fw =>
      obtain ⟨f, ws⟩ := fw
      obtain ⟨t, b, e, h3, h4⟩ := hs2
      subst e
      have o := ok _ (List.mem_of_getElem? hs1)
      obtain ⟨o1, o2, o3, o4⟩ := o
      have s4 := s2.trans s3
      refine ⟨_, rfl, rfl, _, rfl, ?_⟩
      refine ⟨_, rfl, .inl ⟨rfl, _, SqL.of (s3 _ _ h2)⟩, ?_⟩
      refine ⟨_, rfl, _, rfl, _, rfl, wd, (i : Int), f, t, b, ws, rfl, s4 _ _ h3, s4 _ _ h4, w0, o1, by omega, o2, by omega, fun l H5 zs s5 hl h5 l5 p5 => ?_⟩
      have h6 := s5 _ _ (s3 _ _ h2)
      have nlp : l ≠ pl := nofree (s3 _ _ h2) hl
      refine ⟨pl, l, ys, zs, rfl, rfl, h6, h5, sz (by omega), ?_⟩
      have q : stl (some (f, ws)) = ws.length := rfl
      rw [q] at tk
      have up : ∀ (c : Addr) (o : HO), (∀ l, o ≠ HO.lst l) → H5 c = some o → (upd H5 pl (.lst (ys ++ zs))) c = some o := fun c o n e => by
        rw [upd_ne]
        · exact e
        · intro z
          rw [z, h6] at e
          exact n _ (Option.some.inj e).symm
      refine ⟨ys ++ zs, _, _, rfl, same_mut (s4.trans s5) hpl, upd_same, by rw [List.length_append]; omega, by rw [List.length_append]; omega, fun y hy => ?_⟩
      rcases List.mem_append.mp hy with hy | hy
      · obtain ⟨t', j, y', z', e, hj, h7⟩ := ((p2 y hy).same s3).same s5
        exact ⟨t', j, y', z', e, hj, up _ _ (fun l q => by cases q) h7⟩
      · obtain ⟨t', y', z', e, h7⟩ := p5 y hy
        exact ⟨t', i, y', z', e, hi, up _ _ (fun l q => by cases q) h7⟩
  · rintro σ' H' ⟨ys, v1, v2, rfl, s2, h2, l2, l3, p2⟩
    rw [hlen, List.take_length] at l2
    exact ⟨_, rfl, k pl H' ys s2 hpl h2 l2 p2⟩
theorem ok_epochs {f : Addr} {fd : FuncData} (F : Fun K "_epochs_of" "_epochs_of" s_epochs_of f fd) (T : Txt mg) : FnOk P w K mg base CX0 1 f fd ["steps"] sp_epochs := by
  refine F.ok sc_epochs_of (fun vs H Q E h => ?_) (fun cdv A outer s H vs Q E hr h => ?_)
  · obtain ⟨_, _, rfl, _⟩ := h
    rfl
  obtain ⟨a, xs, rfl, ha, xl, k⟩ := h
  refine ⟨_, (pss_cons (ps_par (i := 1) (j := 2) rfl sc_epochs_of.nd rfl rfl (by decide) rfl rfl (pa_cons (pe_lst' pa_nil) (pa_cons pe_int pa_nil)) (by rfl))
    (pss_cons (ps_for PassesOwn.never rfl (pi_list (pv 0)) (pg_name (i := 3) sc_epochs_of.nd rfl (Or.inl rfl))
      (pss_cons (ps_expr (pe_bm PySem.F.plainAttrs_list PySem.F.slot_list_append PySem.F.type_list_append mt_append (pv 1) (pa_cons (pv 2) pa_nil)))
    (pss_one (ps_if (pt_cmpR op_isN (pv 3) pe_non (nomark _))
      (pss_one (ps_aug (i := 2) sc_epochs_of.nd rfl (Or.inl rfl) pe_int ip_add))
      pss_nil))))
    (pss_one (ps_ret (pv 1))))), ?_⟩
  refine ⟨szr, fun el H1 hel s1 h1 => ⟨_, _, rfl, ?_⟩⟩
  refine ⟨_, rfl, a, rfl, ⟨xs, SqL.of (s1 _ _ ha)⟩, for_list (K := K) (a := a) (xs := xs) (fun i σ' H' => ∃ (es : List Int) (z : Int) (v : Option V), σ' = [some (.ref a), some (.ref el), some (.int z), v] ∧ Same H H' ∧ H' el = some (.lst (ivs es)) ∧ es.length = i) ?_ ?_ ?_ ?_⟩
  · exact ⟨[], 0, none, rfl, s1, h1, rfl⟩
  · rintro i σ' H' _ ⟨es, z, v, rfl, s2, _⟩
    exact SqL.of (s2 _ _ ha)
  · rintro i x σ' H' hx ⟨es, z, v, rfl, s2, h2, l2⟩
    have hi : i < xs.length := (List.getElem?_eq_some_iff.mp hx).1
    refine ⟨_, rfl, .inl ⟨rfl, _, SqL.of h2⟩, _, rfl, el, _, _, rfl, rfl, h2, szl (by rw [ivs_len]; omega), ?_⟩
    have e2 : (upd H' el (.lst (ivs es ++ [.int z]))) el = some (.lst (ivs (es ++ [z]))) := by
      rw [upd_same]
      unfold ivs
      rw [List.map_append]
      rfl
    have l3 : (es ++ [z]).length = i + 1 := by rw [List.length_append, l2]; rfl
    refine ⟨_, rfl, rfl, _, rfl, ite2 (fun _ => ?_) (fun _ => ?_)⟩
    · exact ⟨_, rfl, _, _, rfl, rfl, es ++ [z], z + 1, _, rfl, same_mut s2 hel, e2, l3⟩
    · exact ⟨es ++ [z], z, _, rfl, same_mut s2 hel, e2, l3⟩
  · rintro σ' H' ⟨es, z, v, rfl, s2, h2, l2⟩
    exact ⟨_, rfl, k el H' es s2 hel h2 l2⟩
theorem ok_room {f : Addr} {fd : FuncData} (F : Fun K "is_room" "is_room" s_is_room f fd) (T : Txt mg) (C : Cst K mg) (c_pieces_of : Cal P w K mg base 2 "_pieces_of" ["width", "steps"] sp_pieces) : FnOk P w K mg base CX0 3 f fd ["width", "steps"] sp_room := by
  obtain ⟨tk1, c_MOST_STEPS⟩ := C.steps
  obtain ⟨tk2, c_MOST_PIECES⟩ := C.pieces
  refine F.ok sc_is_room (fun vs H Q E h => ?_) (fun cdv A outer s H vs Q E hr h => ?_)
  · obtain ⟨_, _, _, _, rfl, _⟩ := h
    rfl
  obtain ⟨wd, a, xs, sts, rfl, ha, hst, w0, xl, ok, tl, k⟩ := h
  refine ⟨_, (pss_one (ps_ret (pe_and (pe_cmpR op_le (pe_callB call_len' (by rfl) T.len (by decide +kernel) (pa_cons (pv 1) pa_nil)) (pe_glob (v := .int 40) rfl c_MOST_STEPS ⟨_, rfl⟩) (nomark _)) (pe_one (pe_cmpR op_le (pe_callB call_len' (by rfl) T.len (by decide +kernel) (pa_cons (pe_cal c_pieces_of hr (pa_cons (pv 0) (pa_cons (pv 1) pa_nil))) pa_nil)) (pe_glob (v := .int 40) rfl c_MOST_PIECES ⟨_, rfl⟩) (nomark _)))))), ?_⟩
  refine ⟨_, rfl, a, xs, rfl, .inl ha, _, _, rfl, rfl, _, rfl, ?_⟩
  have e1 : decide (((xs.length : Nat) : Int) ≤ 40) = true := decide_eq_true (by omega)
  rw [e1]
  refine iteT ⟨_, rfl, _, rfl, wd, a, xs, sts, rfl, ha, hst, w0, by omega, ok, fun l H1 ys s1 hl h1 l1 p1 => ?_⟩
  refine ⟨l, ys, rfl, .inl h1, _, _, rfl, rfl, ?_⟩
  have e2 : decide (((ys.length : Nat) : Int) ≤ 40) = true := decide_eq_true (by omega)
  show Q (V.bl (decide (((ys.length : Nat) : Int) ≤ 40))) H1
  rw [e2]
  exact k H1 s1
end
end Af

set_option Elab.async false
set_option linter.all false
set_option maxRecDepth 100000
namespace Af
open PySem PySem.Spec PyProof.Rows L2
/-! steps and plans as data, equal or not -/
def stepD : Stp → PyData
  | none => .none
  | some (f, ws) => .tuple [.int f, .tuple (dvs ws)]
def stepsD : List Stp → List PyData
  | [] => []
  | a :: r => stepD a :: stepsD r
theorem dp_step {K : PySem.W.Frag} {H : Hp} : ∀ {x : V} {st : Stp}, StepV H x st → Dp K H x (stepD st)
  | _, none, h => by
    have e : _ = V.non := h
    subst e
    exact .non
  | _, some (f, ws), h => by
    obtain ⟨a, b, rfl, h1, h2⟩ := h
    exact .tup (SqT.of h1) (.cons (.int f) (.cons (.tup (SqT.of h2) (dp_ints ws)) .nil))
theorem dp_steps {K : PySem.W.Frag} {H : Hp} : ∀ {xs : List V} {sts : List Stp}, Paired (StepV H) xs sts → DpAll K H xs (stepsD sts)
  | _, _, .nil => .nil
  | _, _, .cons h t => .cons (dp_step h) (dp_steps t)
theorem lay_step : ∀ st : Stp, (stepD st).canLay0 = true ∧ (stepD st).depth ≤ 2
  | none => ⟨rfl, by decide⟩
  | some (f, ws) => by
    refine ⟨?_, ?_⟩
    · show (PyData.canLay0 (.int f) && (PyData.canLayAll0 (dvs ws) && true)) = true
      rw [lay_ints]
      rfl
    · show max (PyData.depth (.int f)) (max (PyData.depthAll (dvs ws) + 1) 0) + 1 ≤ 2
      rw [deep_ints]
      show max 0 (max (0 + 1) 0) + 1 ≤ 2
      decide
theorem lay_steps : ∀ sts : List Stp, PyData.canLayAll0 (stepsD sts) = true ∧ PyData.depthAll (stepsD sts) ≤ 2
  | [] => ⟨rfl, by decide⟩
  | a :: r => by
    obtain ⟨h1, h2⟩ := lay_step a
    obtain ⟨h3, h4⟩ := lay_steps r
    refine ⟨?_, ?_⟩
    · show (PyData.canLay0 (stepD a) && PyData.canLayAll0 (stepsD r)) = true
      rw [h1, h3]
      rfl
    · show max (PyData.depth (stepD a)) (PyData.depthAll (stepsD r)) ≤ 2
      omega
theorem sh_ints (ns : List Int) : SeqAt.shaped (.tuple (dvs ns)) = true := by
  show (PyData.canLayAll0 (dvs ns) && decide (PyData.depthAll (dvs ns) + 1 ≤ 64)) = true
  rw [lay_ints, deep_ints]
  rfl
theorem sh_int (n : Int) : SeqAt.shaped (.int n) = true := rfl
theorem sh_steps (sts : List Stp) : SeqAt.shaped (.list (stepsD sts)) = true := by
  obtain ⟨h1, h2⟩ := lay_steps sts
  show (PyData.canLayAll0 (stepsD sts) && decide (PyData.depthAll (stepsD sts) + 1 ≤ 64)) = true
  rw [h1, decide_eq_true (by omega)]
  rfl
def planD (pl : Pl) : PyData := .tuple [.tuple (dvs pl.cs), .int pl.w, .list (stepsD pl.sts)]
theorem sh_plan (pl : Pl) : SeqAt.shaped (planD pl) = true := by
  obtain ⟨h1, h2⟩ := lay_steps pl.sts
  show ((PyData.canLayAll0 (dvs pl.cs) && (true && (PyData.canLayAll0 (stepsD pl.sts) && true))) && decide (max (PyData.depthAll (dvs pl.cs) + 1) (max 0 (max (PyData.depthAll (stepsD pl.sts) + 1) 0)) + 1 ≤ 64)) = true
  rw [h1, lay_ints, deep_ints, decide_eq_true (by omega)]
  rfl
theorem dp_plan {K : PySem.W.Frag} {H : Hp} {p : Addr} {v : V} {pl : Pl} (h : PlanV p H v pl) : Dp K H v (planD pl) := by
  obtain ⟨a, ca, sa, xs, rfl, h1, h2, _, h3, h4⟩ := h.ex
  exact .tup (SqT.of h1) (.cons (.tup (SqT.of h2) (dp_ints _)) (.cons (.int _) (.cons (.lst (SqL.of h3) (dp_steps h4)) .nil)))
/-- what == of two plans is -/
def samePl (a b : Pl) : Bool := PyData.eqv (.tuple (dvs a.cs)) (.tuple (dvs b.cs)) && (PyData.eqv (.int a.w) (.int b.w) && PyData.eqv (.list (stepsD a.sts)) (.list (stepsD b.sts)))
theorem same_planD (a b : Pl) : PyData.eqv (planD a) (planD b) = samePl a b := by
  show (PyData.eqv (.tuple (dvs a.cs)) (.tuple (dvs b.cs)) && (PyData.eqv (.int a.w) (.int b.w) && (PyData.eqv (.list (stepsD a.sts)) (.list (stepsD b.sts)) && true))) = _
  rw [Bool.and_true]
  rfl
mutual
theorem eqv_comm : ∀ a b : PyData, PyData.eqv a b = PyData.eqv b a
  | .none, b => by cases b <;> rfl
  | .bool x, b => by
    cases b with
    | bool y => cases x <;> cases y <;> rfl
    | int j =>
      show ((if x = true then (1 : Int) else 0) == j) = (j == (if x = true then (1 : Int) else 0))
      exact BEq.comm
    | _ => rfl
  | .int x, b => by
    cases b with
    | int y =>
      show (x == y) = (y == x)
      exact BEq.comm
    | bool y =>
      show (x == (if y = true then (1 : Int) else 0)) = ((if y = true then (1 : Int) else 0) == x)
      exact BEq.comm
    | _ => rfl
  | .str x, b => by
    cases b with
    | str y =>
      show (x == y) = (y == x)
      exact BEq.comm
    | _ => rfl
  | .list xs, b => by
    cases b with
    | list ys => exact eqvAll_comm xs ys
    | _ => rfl
  | .tuple xs, b => by
    cases b with
    | tuple ys => exact eqvAll_comm xs ys
    | _ => rfl
  | .dict xs, b => by cases b <;> rfl
theorem eqvAll_comm : ∀ xs ys : List PyData, PyData.eqvAll xs ys = PyData.eqvAll ys xs
  | [], [] => rfl
  | [], _ :: _ => rfl
  | _ :: _, [] => rfl
  | x :: xs, y :: ys => by
    show (PyData.eqv x y && PyData.eqvAll xs ys) = (PyData.eqv y x && PyData.eqvAll ys xs)
    rw [eqv_comm x y, eqvAll_comm xs ys]
end
theorem same_comm (a b : Pl) : samePl a b = samePl b a := by
  rw [← same_planD, ← same_planD]
  exact eqv_comm _ _
theorem same_refl (a : Pl) : samePl a a = true := by
  rw [← same_planD]
  have := sh_plan a
  exact PySem.SeqAt.eqv_refl _ (Bool.and_eq_true_iff.mp this).1
/-! xs.count(None) -/
def rCntN (K : PySem.W.Frag) : V → List V → Hp → VK → Prop := fun x xs H Q => ∃ (p : Addr) (ys : List V) (ds : List PyData), x = .ref p ∧ xs = [.non] ∧ SqL K H p ys ∧ DpAll K H ys ds ∧ PyData.canLayAll0 ds = true ∧ ∀ n : Nat, Q (.int (n : Nat)) H
theorem mt_countN {X : Cx} (hu : X.A.units + 1 < cLine) : MtR X "list.count" (rCntN X.K) := by
  intro pins s σ H x xs v us Q I rx rxs h
  obtain ⟨p, ys, ds, rfl, rfl, hs, hd, hl, q⟩ := h
  cases (show v = Value.ref p from rx)
  obtain ⟨u, rfl, ru⟩ := rxs.one
  cases (show u = Value.none from ru)
  obtain ⟨its, rv, pl, _⟩ := I.list hs
  obtain ⟨as, rs⟩ := Dp.readsAll I ds ys its hd rv
  refine PySem.SeqAt.count_list_data (d := .none) (vs := its.toArray) pl.isList (by simpa using rs) Reads.none (PyData.plainAll_of_canLay0 _ hl) rfl (by show X.A.units + 1 + min _ 0 < cLine; omega) ?_
  exact ⟨.int (ds.countP (fun y => PyData.eqv y .none) : Nat), H, I.tok _, ⟨_, rfl⟩, q _⟩
/-! xs[::-1] -/
theorem pe_up {X : Cx} {e : Expr} {te : TE} (he : PE X e te) : PE X e (fun σ H R => ∃ R0 : VK, te σ H R0 ∧ ∀ x H1, R0 x H1 → R x H1) := ⟨fun pins s σ H R I q => by
  obtain ⟨R0, q1, q2⟩ := q
  refine thn (he.run pins s σ H R0 I q1) fun v s1 z => ?_
  obtain ⟨x, H1, I1, r1, q⟩ := z
  exact ⟨x, H1, I1, r1, q2 _ _ q⟩⟩
theorem pe_rev' {X : Cx} {e : Expr} {te : TE} {k : Nat} {p1 p2 p3 pos : Pos} (he : PE X e te) : PE X (.Subscript e (.Slice none none (some (.UnaryOp .USub (.Constant (.int 1) k p1) p2)) p3) pos) (tRev' te) := by
  have h := pe_revL (p1 := p1) (p2 := p2) (p3 := p3) (pos := pos) (k := k) (pe_up he)
  refine ⟨fun pins s σ H Q I q => h.run pins s σ H Q I ⟨_, q, fun x H1 z => ?_⟩⟩
  obtain ⟨a, xs, e, ha, q⟩ := z
  exact ⟨a, xs, e, SqL.of ha, q.mk⟩
end Af

set_option Elab.async false
set_option linter.all false
set_option maxRecDepth 100000
namespace Af
open PySem PySem.Calls PySem.Spec PyProof.Rows L2
/-! == and != of an instance whose class has its own __eq__ and no __ne__ -/
section
variable {M : Model} {prog : Program} {w : World} {A : Around} {E : Value → Shared → Prop} {s : Shared} {K : PySem.W.Frag} {x C L f : Addr} {ox : Obj} {od : Option Obj} {b tb : Value} {h₀ : Heap} {m : Str → Option Value}
theorem ifBound_ne {args : List Value} {Q : Option Value → Shared → Prop} (X : K.In s.heap) (I : PySem.W.InstAt s.heap x ox C od) (hs : PySem.W.findIn K (.ref C) "__ne__" = some (some (.builtin "object.__ne__")))
    (h : wpAny M A (call (.builtin "object.__ne__") (.ref x :: args)) (fun v => Q (some v)) E s) : wpAny M A (callSpecialIfBound? (.ref x) "__ne__" args) Q E s := by
  simp only [callSpecialIfBound?, bindSpecialIfBound?]
  refine wpAny_holding (wpAny_bind (wpAny_bind (wpAny_bind (I.type.here ((PySem.W.looks_findIn X hs).here ?_)))))
  refine wpAny_bind (wpAny_askSetting (wpAny_ite ?_))
  have last : wpAny M A (call (.builtin "object.__ne__") ([.ref x] ++ args) >>= fun v => pure (some v)) Q E s := wpAny_bind (wpAny_mono h (fun _ _ q => wpAny_pure q) fun _ _ q => q)
  split
  · exact wpAny_bind (wpAny_of_eq (F.cmp_object.ne.bind _) (wpAny_pure (by exact last)))
  · exact wpAny_tryCatch (wpAny_bind (wpAny_of_eq (F.cmp_object.ne.bind _) (wpAny_pure (by exact last))))
theorem entry_ne {Q : Fin → Shared → Prop} (hu : A.units < cLine) (X : K.In s.heap) (I : PySem.W.InstAt s.heap x ox C od) (hs : PySem.W.findIn K (.ref C) "__eq__" = some (some (.ref f))) (hf : PySem.W.isFn K (.ref f) = true)
    (h : wpAny (model prog w) A (call (.ref f) [.ref x, b]) (fun v s' => ∃ r, v = .bool r ∧ Q (.done (.ret (.bool (!r)))) s') E s) :
    wpAny (model prog w) A (Builtin.«object.__ne__» ⟨[.ref x, b], []⟩) Q E s := by
  unfold Builtin.«object.__ne__»
  repeat (first
    | with_reducible refine wpAny_cRoomFor hu ?_
    | (refine wpAny_bind (m := callSpecialIfBound? (.ref x) (Str.ofString "__eq__") [b])
        (PySem.W.ifBound_K X I hs hf (wpAny_mono h (fun r s' hr => by
          obtain ⟨b, rfl, hq⟩ := hr
          repeat (first | exact hq | exact wpAny_pure hq | exact wpAny_truthy_bool hq | (refine wpAny_bind (m := truthy (.bool _)) (wpAny_truthy_bool ?_)) | wp_step)) fun _ _ e => e)))
    | wp_step)
theorem rc_ne {Q : Value → Shared → Prop} (hu : A.units + 1 < cLine) (Y : PyProof.Rows.Fr h₀ L s.heap m) (X₀ : K.In h₀) (I : PySem.W.InstAt s.heap x ox C od) (hb : PySem.W.Looks (model prog w) s.heap (typeOf b) tb) (hn : PySem.W.notFirst K C tb = true)
    (hs : PySem.W.findIn K (.ref C) "__eq__" = some (some (.ref f))) (hf : PySem.W.isFn K (.ref f) = true) (hne : PySem.W.findIn K (.ref C) "__ne__" = some (some (.builtin "object.__ne__"))) (hm : PySem.W.mroIn K C (.type "object") = some true)
    (h : wpAny (model prog w) A.in1 (call (.ref f) [.ref x, b]) (fun v s' => ∃ r, v = .bool r ∧ Q (.bool (!r)) s') E s) : wpAny (model prog w) A (richCompare .NotEq (.ref x) b) Q E s := by
  have X := X₀.keeps Y.keep
  have one : wpAny (model prog w) A (tryCompare (.ref x) "__ne__" b) (fun r s' => ∃ v, r = some v ∧ Q v s') E s := by
    unfold tryCompare
    refine wpAny_bind (ifBound_ne X I hne (wpAny_call (codeAny_call_builtin F.cmp_object.ne.plain F.cmpEntry_ne (PySem.W.check_slot F.cmpKind_ne F.cmpSplit_ne (I.type.andThen (PySem.W.looks_mroIn X hm)) (F.cmpArgs_ne _ _) (entry_ne (A := A.in1) hu X I hs hf (wpAny_mono h (fun v s' z => ?_) fun _ _ e => e))))))
    obtain ⟨r, rfl, hq⟩ := z
    exact ⟨r, rfl, wpAny_pure ⟨_, rfl, hq⟩⟩
  unfold richCompare
  simp only [oneThing_ref]
  refine wpAny_holding (wpAny_bind (wpAny_cRoomFor (Nat.lt_of_succ_lt hu) ?_))
  refine wpAny_bind (I.type.here (wpAny_bind (hb.here ?_)))
  have go : wpAny (model prog w) A (tryCompare (.ref x) "__ne__" b) (fun r s' => ∃ v, r = some v ∧ Q v s') E s := one
  split
  · rename_i q
    have e : PySem.W.subIn K tb (.ref C) = some false := by
      rcases Bool.or_eq_true_iff.mp hn with e | e
      · rw [beq_iff_eq.mp e] at q; simp at q
      · exact beq_iff_eq.mp e
    refine wpAny_bind ((PySem.W.looks_subIn X e).here ?_)
    simp only [Bool.false_eq_true, if_false]
    refine wpAny_bind (wpAny_mono one (fun r s' z => ?_) fun _ _ e => e)
    obtain ⟨v, rfl, hq⟩ := z
    exact wpAny_pure hq
  · refine wpAny_bind (wpAny_pure ?_)
    simp only [Bool.false_eq_true, if_false]
    refine wpAny_bind (wpAny_mono one (fun r s' z => ?_) fun _ _ e => e)
    obtain ⟨v, rfl, hq⟩ := z
    exact wpAny_pure hq
end
/-- what is asked of the class at C for its own == -/
structure OwnEqC (K : PySem.W.Frag) (C f : Addr) : Prop where
  eq : PySem.W.findIn K (.ref C) "__eq__" = some (some (.ref f))
  fn : PySem.W.isFn K (.ref f) = true
  ne : PySem.W.findIn K (.ref C) "__ne__" = some (some (.builtin "object.__ne__"))
  ob : PySem.W.mroIn K C (.type "object") = some true
/-- x == y where x is an instance: what the own __eq__ promises, which answers a bool -/
def rOwnEq (K : PySem.W.Frag) (C : Addr) (sp : Sp) : R2 := fun x y H Q => ∃ a dx fs t, x = .ref a ∧ H a = some (.ins C dx fs) ∧ TyX K H y t ∧ PySem.W.notFirst K C t = true ∧ sp [x, y] H (fun v H' => ∃ b, v = .bl b ∧ Q (.bl b) H') E0
def rOwnNe (K : PySem.W.Frag) (C : Addr) (sp : Sp) : R2 := fun x y H Q => ∃ a dx fs t, x = .ref a ∧ H a = some (.ins C dx fs) ∧ TyX K H y t ∧ PySem.W.notFirst K C t = true ∧ sp [x, y] H (fun v H' => ∃ b, v = .bl b ∧ Q (.bl (!b)) H') E0
section
variable {X : Cx} {C f : Addr} {fd : FuncData} {ps : List Str} {sp : Sp} {k n : Nat}
theorem own_run (G : FnOk X.prog X.w X.K X.mg X.base CX0 k f fd ps sp) (hb : Binds X.K fd ps []) {A : Around} (hr : Room k A) (hA : A.frames = X.A.frames) {pins : List (Addr × Obj)} {s : Shared} {σ : L2.St} {H : Hp} {x y : V} {v u : Value} (I : Inv X pins σ H s) (rx : RelV x v) (ry : RelV y u)
    {Q : VK} (hq : sp [x, y] H Q E0) : wpAny (model X.prog X.w) A (call (.ref f) [v, u]) (fun r s' => EP X pins σ Q r s') X.xe s := by
  have e0 : Env0 X.prog X.w X.K X.mg X.base A X.stack s H := by
    have e := I.env0
    exact ⟨by rw [hA]; exact e.frames, e.mod, e.bs, e.bsz, e.funs, e.frf, e.hok, e.bare⟩
  have hl := G.len _ _ _ _ hq
  refine wpAny_call (codeAny_mono (G.run A X.stack s H ⟨[v, u], []⟩ [v, u] [x, y] _ E0 hr e0 (by
    have := hb s [v, u] I.kIn (by simpa using hl)
    simpa using this) (.cons rx (.cons ry .nil)) hq) fun r s' z => ?_)
  cases r with
  | error e => exact pass0 pins σ H s e s' I z
  | ok fl =>
    cases fl with
    | ret w => exact I.after z
    | next => exact False.elim z
    | brk => exact False.elim z
    | cont => exact False.elim z
theorem op_ownEq (O : OwnEqC X.K C f) (G : FnOk X.prog X.w X.K X.mg X.base CX0 k f fd ps sp) (hb : Binds X.K fd ps []) (hr : Room n X.A) (hkn : k ≤ n := by decide) : OpR X (compareOp .Eq) (rOwnEq X.K C sp) := by
  intro pins s σ H x y v u Q I rx ry h
  obtain ⟨a, dx, fs, t, rfl, ha, ty, nf, q⟩ := h
  cases (show v = Value.ref a from rx)
  obtain ⟨mA, J, _⟩ := ins_get I.hok ha
  obtain ⟨od, J, _⟩ := J.look
  obtain ⟨P, Z, p, _⟩ := kit_of I ry ty
  obtain ⟨m, hF⟩ := I.fr
  have lk := Z.ty (model X.prog X.w) s.heap I.kIn p
  show wpAny (model X.prog X.w) X.A (richCompare .Eq (.ref a) u) (EP X pins σ Q) X.xe s
  refine PySem.W.cmp_K (op := .Eq) (tb := t) hr.units0 hF I.ok.mod.kin J lk nf O.eq O.fn ?_
  refine wpAny_mono (own_run G hb (hr.mono hkn) rfl (x := .ref a) (v := .ref a) I rfl ry q) (fun r s' z => ?_) fun _ _ z => z
  obtain ⟨v', H', I', rv, b, e, z⟩ := z
  subst e
  cases (show r = Value.bool b from rv)
  exact ⟨.bl b, H', I', rfl, z⟩
theorem op_ownNe (O : OwnEqC X.K C f) (G : FnOk X.prog X.w X.K X.mg X.base CX0 k f fd ps sp) (hb : Binds X.K fd ps []) (hr : Room n X.A) (hkn : k + 1 ≤ n := by decide) : OpR X (compareOp .NotEq) (rOwnNe X.K C sp) := by
  intro pins s σ H x y v u Q I rx ry h
  obtain ⟨a, dx, fs, t, rfl, ha, ty, nf, q⟩ := h
  cases (show v = Value.ref a from rx)
  obtain ⟨mA, J, _⟩ := ins_get I.hok ha
  obtain ⟨od, J, _⟩ := J.look
  obtain ⟨P, Z, p, _⟩ := kit_of I ry ty
  obtain ⟨m, hF⟩ := I.fr
  have lk := Z.ty (model X.prog X.w) s.heap I.kIn p
  show wpAny (model X.prog X.w) X.A (richCompare .NotEq (.ref a) u) (EP X pins σ Q) X.xe s
  have hr' : Room (k + 1) X.A := hr.mono hkn
  refine rc_ne (tb := t) hr'.in1.units0 hF I.ok.mod.kin J lk nf O.eq O.fn O.ne O.ob ?_
  refine wpAny_mono (own_run G hb hr'.in1 rfl (x := .ref a) (v := .ref a) I rfl ry q) (fun r s' z => ?_) fun _ _ z => z
  obtain ⟨v', H', I', rv, b, e, z⟩ := z
  subst e
  cases (show r = Value.bool b from rv)
  exact ⟨b, rfl, .bl (!b), H', I', rfl, z⟩
end
end Af

set_option Elab.async false
set_option linter.all false
set_option maxRecDepth 100000
set_option maxHeartbeats 4000000
namespace Af
open PySem L2
abbrev s_Plan___init : Stmt := inClass (top 22) 0
abbrev N_Plan___init : List Str := ["self", "base", "width", "steps", "epochs", "piece"]
theorem sc_Plan___init : FnScope N_Plan___init ["self", "base", "width", "steps"] (defScope s_Plan___init) := ⟨rfl, rfl, rfl, by decide +kernel, rfl, by decide +kernel, by decide +kernel⟩

abbrev s_Plan___eq : Stmt := inClass (top 22) 9
abbrev N_Plan___eq : List Str := ["self", "other"]
theorem sc_Plan___eq : FnScope N_Plan___eq ["self", "other"] (defScope s_Plan___eq) := ⟨rfl, rfl, rfl, by decide +kernel, rfl, by decide +kernel, by decide +kernel⟩

abbrev s_l_plan_of : Stmt := top 34
abbrev N_l_plan_of : List Str := ["_law_plan_here"]
theorem sc_l_plan_of : FnScope N_l_plan_of ["_law_plan_here"] (defScope s_l_plan_of) := ⟨rfl, rfl, rfl, by decide +kernel, rfl, by decide +kernel, by decide +kernel⟩

/-- what the text has written of the class -/
structure PlanC (K : PySem.W.Frag) (mg : Str → Option Value) (C : Addr) : Prop where
  cl : Cls K C
  nB : NoAttr K C "_base"
  nW : NoAttr K C "_width"
  nS : NoAttr K C "_steps"
  nP : NoAttr K C "_pieces"
  nE : NoAttr K C "_piece_epochs"
  nN : NoAttr K C "_epochs"
  mgC : mg "Plan" = some (.ref C)
  is1 : PySem.W.kitOne K (.ref C) (.ref C) = some true
  is0 : ∀ n ∈ tyNames, PySem.W.kitOne K (.type n) (.ref C) = some false
  first : ∀ n ∈ tyNames, PySem.W.notFirst K C (.type n) = true
  ha : PySem.W.findIn K (.ref C) "__class__" = some (some (.builtin "object.__class__"))
  hn : PySem.W.specialIn K (.builtin "object.__class__") "__get__" = some (some (.builtin "getset_descriptor.__get__"))
  htk : PySem.W.takesIn K (.builtin "object.__class__") = some true
  hm : PySem.W.mroIn K C (.type "object") = some true
theorem PlanC.ty {K : PySem.W.Frag} {mg : Str → Option Value} {C a dx : Addr} {fs : List (Str × V)} {H : Hp} (T : PlanC K mg C) (h : H a = some (.ins C dx fs)) : TyX K H (.ref a) (.ref C) := .base (.ins h T.cl T.ha T.hn T.htk T.hm)
/-- x is a plan of the program's with these parts -/
structure PlanI (p C : Addr) (H : Hp) (x : V) (pl : Pl) : Prop where
  ex : ∃ (a dx ca sl : Addr) (fs : List (Str × V)) (xs : List V), x = .ref a ∧ H a = some (.ins C dx fs) ∧ fs.lookup ("_base" : Str) = some (.ref ca) ∧ fs.lookup ("_width" : Str) = some (.int pl.w) ∧ fs.lookup ("_steps" : Str) = some (.ref sl) ∧
    H ca = some (.tup (ivs pl.cs)) ∧ sl ≠ p ∧ H sl = some (.lst xs) ∧ Paired (StepV H) xs pl.sts
theorem PlanI.kp {p C : Addr} {H H' : Hp} {x : V} {pl : Pl} (k : Kp p H H') (h : PlanI p C H x pl) : PlanI p C H' x pl := by
  obtain ⟨a, dx, ca, sl, fs, xs, e, h1, l1, l2, l3, h2, n, h3, h4⟩ := h.ex
  exact ⟨a, dx, ca, sl, fs, xs, e, k.ins h1, l1, l2, l3, k.tup h2, n, k.lst n h3, steps_kp k h4⟩
def sp_init (C : Addr) : Sp := fun vs H Q _ => ∃ (x dx ca sa : Addr) (pl : Pl) (xs : List V), vs = [.ref x, .ref ca, .int pl.w, .ref sa] ∧ H x = some (.ins C dx []) ∧ H ca = some (.tup (ivs pl.cs)) ∧ H sa = some (.lst xs) ∧ Paired (StepV H) xs pl.sts ∧ Good 40 40 pl ∧
  ∀ H' (sl : Addr) (fs : List (Str × V)), (∀ a o, a ≠ x → H a = some o → H' a = some o) → H sl = none → H' x = some (.ins C dx fs) → fs.lookup ("_base" : Str) = some (.ref ca) → fs.lookup ("_width" : Str) = some (.int pl.w) → fs.lookup ("_steps" : Str) = some (.ref sl) → H' sl = some (.lst xs) → Q .non H'
def sp_eq (K : PySem.W.Frag) (C : Addr) : Sp := fun vs H Q _ => ∃ (p : Addr) (x y : V) (pl : Pl), vs = [x, y] ∧ PlanI p C H x pl ∧ ((∃ pl', PlanI p C H y pl' ∧ Q (.bl (samePl pl pl')) H) ∨ ∃ n, Ty K H y n ∧ Q (.bl false) H)
def sp_plan_of (C : Addr) : Sp := fun vs H Q _ => ∃ (p : Addr) (v : V) (pl : Pl), vs = [v] ∧ (∃ l, H p = some (.lst l)) ∧ PlanV p H v pl ∧ Good 40 40 pl ∧ ∀ x H', Same H H' → PlanI p C H' x pl → Q x H'
section
variable {P : Program} {w : World} {K : PySem.W.Frag} {mg : Str → Option Value} {base : Heap}
theorem ok_eq {f C : Addr} {fd : FuncData} (F : Fun K "__eq__" "Plan.__eq__" s_Plan___eq f fd) (T : Txt mg) (TC : PlanC K mg C) : FnOk P w K mg base CX0 1 f fd ["self", "other"] (sp_eq K C) := by
  have c_Plan := TC.mgC
  refine F.ok sc_Plan___eq (fun vs H Q E h => ?_) (fun cdv A outer s H vs Q E hr h => ?_)
  · obtain ⟨_, _, _, _, rfl, _⟩ := h
    rfl
  obtain ⟨p, x, y, pl, rfl, hx, k⟩ := h
  refine ⟨_, (pss_one (ps_ret (pe_and (pe_callB call_isi (by rfl) T.isinstance (by decide +kernel) (pa_cons (pv 1) (pa_cons (pe_glob (v := .ref C) rfl c_Plan rfl) pa_nil))) (pe_and (pe_cmpR (op_eqD hr.units) (pe_fld (pv 0) rfl) (pe_fld (pv 1) rfl) (nomark _)) (pe_and (pe_cmpR (op_eqD hr.units) (pe_fld (pv 0) rfl) (pe_fld (pv 1) rfl) (nomark _)) (pe_one (pe_cmpR (op_eqD hr.units) (pe_fld (pv 0) rfl) (pe_fld (pv 1) rfl) (nomark _)))))))), ?_⟩
  obtain ⟨a, dx, ca, sl, fs, xs, rfl, h1, l1, l2, l3, h2, n, h3, h4⟩ := hx.ex
  rcases k with ⟨pl', hy, k⟩ | ⟨m, t, k⟩
  · obtain ⟨b, dy, cb, tl, gs, ys, rfl, g1, m1, m2, m3, g2, n2, g3, g4⟩ := hy.ex
    refine ⟨_, rfl, .ref b, .ref C, _, _, true, rfl, .own C, TC.ty g1, TC.is1, ?_⟩
    refine ⟨_, rfl, iteT ?_⟩
    refine ⟨_, rfl, a, C, dx, fs, _, rfl, h1, TC.cl, TC.nB, l1, _, rfl, b, C, dy, gs, _, rfl, g1, TC.cl, TC.nB, m1, ?_⟩
    refine ⟨_, _, .tup (SqT.of h2) (dp_ints _), .tup (SqT.of g2) (dp_ints _), sh_ints _, sh_ints _, _, rfl, ?_⟩
    cases e1 : PyData.eqv (.tuple (dvs pl.cs)) (.tuple (dvs pl'.cs)) with
    | false =>
      refine iteF ?_
      have : samePl pl pl' = false := by unfold samePl; rw [e1]; rfl
      rw [this] at k
      exact k
    | true =>
      refine iteT ?_
      refine ⟨_, rfl, a, C, dx, fs, _, rfl, h1, TC.cl, TC.nW, l2, _, rfl, b, C, dy, gs, _, rfl, g1, TC.cl, TC.nW, m2, ?_⟩
      refine ⟨_, _, .int _, .int _, sh_int _, sh_int _, _, rfl, ?_⟩
      cases e2 : PyData.eqv (.int pl.w) (.int pl'.w) with
      | false =>
        refine iteF ?_
        have : samePl pl pl' = false := by unfold samePl; rw [e1, e2]; rfl
        rw [this] at k
        exact k
      | true =>
        refine iteT ?_
        refine ⟨_, rfl, a, C, dx, fs, _, rfl, h1, TC.cl, TC.nS, l3, _, rfl, b, C, dy, gs, _, rfl, g1, TC.cl, TC.nS, m3, ?_⟩
        refine ⟨_, _, .lst (SqL.of h3) (dp_steps h4), .lst (SqL.of g3) (dp_steps g4), sh_steps _, sh_steps _, ?_⟩
        have : samePl pl pl' = PyData.eqv (.list (stepsD pl.sts)) (.list (stepsD pl'.sts)) := by unfold samePl; rw [e1, e2]; rfl
        rw [this] at k
        exact k
  · refine ⟨_, rfl, y, .ref C, _, _, false, rfl, .own C, .base t.ty, TC.is0 m t.mem, ?_⟩
    exact ⟨_, rfl, iteF k⟩
end
end Af

set_option Elab.async false
set_option linter.all false
set_option maxRecDepth 100000
set_option maxHeartbeats 4000000
namespace Af
open PySem L2
theorem all_idx {ns : List Int} {m : Int} (h : ∀ z ∈ ns, 0 ≤ z ∧ z < m) : (ivs ns).all (idxB m) = true := by
  refine List.all_eq_true.mpr fun x hx => ?_
  obtain ⟨z, hz, rfl⟩ := List.mem_map.mp hx
  obtain ⟨a, b⟩ := h z hz
  show (decide (0 ≤ z) && decide (z < m)) = true
  rw [decide_eq_true a, decide_eq_true b]
  rfl
theorem ivs_ne {ns : List Int} (h : ns ≠ []) : (!(ivs ns).isEmpty) = true := by
  cases ns with
  | nil => exact absurd rfl h
  | cons a b => rfl
theorem th_ints {K : PySem.W.Frag} {H : Hp} {a : Addr} {ns : List Int} (h : H a = some (.tup (ivs ns))) (hl : ns.length ≤ 100000) {d : Nat} : Th K H (d + 1) (.ref a) := by
  refine th_tup h (by rw [ivs_len]; exact hl) fun y hy => ?_
  obtain ⟨z, _, rfl⟩ := List.mem_map.mp hy
  exact th_int
theorem content_ok {H : Hp} {a : Addr} {ns : List Int} (h : H a = some (.tup (ivs ns))) (c1 : 1 ≤ ns.length) (c2 : ns.length ≤ 24) (cb : ∀ z ∈ ns, 0 ≤ z ∧ z < 8) : contentB H (.ref a) = true := by
  unfold contentB
  rw [worths_at h, len_at h, ivs_ne (fun z => by rw [z] at c1; exact absurd c1 (by decide)), all_idx cb, ivs_len, decide_eq_true c2]
  rfl
theorem width_ok {w : Int} (h1 : 1 ≤ w) (h2 : w ≤ 24) : widthB (.int w) = true := by
  show (decide (1 ≤ w) && decide (w ≤ 24)) = true
  rw [decide_eq_true h1, decide_eq_true h2]
  rfl
theorem step_ok {H : Hp} {x : V} {st : Stp} {n : Nat} (h : StepV H x st) (o : OkS n st) : stepB H (n : Int) x = true := by
  cases st with
  | none =>
    have e : x = .non := h
    subst e
    rfl
  | some fw =>
    obtain ⟨f, ws⟩ := fw
    obtain ⟨a, b, rfl, h1, h2⟩ := h
    obtain ⟨o1, o2, o3, o4⟩ := o
    have hp : 0 < ws.length := List.length_pos_iff.mpr o2
    have e : stepB H (n : Int) (.ref a) = (idxB (n : Int) (.int f) && worthsB H (.ref b) && addB (n : Int) (lenB H (.ref b)) (.int f)) := by
      unfold stepB
      simp only [h1]
    rw [e, worths_at h2, len_at h2, ivs_ne o2, all_idx o4, ivs_len]
    show ((decide (0 ≤ f) && decide (f < (n : Int))) && (true && true) && decide (f + (ws.length : Int) ≤ (n : Int))) = true
    rw [decide_eq_true o1, decide_eq_true o3, decide_eq_true (by omega)]
    rfl
theorem th_step {K : PySem.W.Frag} {H : Hp} {x : V} {st : Stp} {n : Nat} (h : StepV H x st) (o : OkS n st) (hn : n ≤ 1000) : Th K H 2 x := by
  cases st with
  | none =>
    have e : x = .non := h
    subst e
    exact th_non
  | some fw =>
    obtain ⟨f, ws⟩ := fw
    obtain ⟨a, b, rfl, h1, h2⟩ := h
    obtain ⟨o1, o2, o3, o4⟩ := o
    refine th_tup h1 (by show 2 ≤ 100000; decide) fun y hy => ?_
    simp only [List.mem_cons, List.not_mem_nil, or_false] at hy
    rcases hy with rfl | rfl
    · exact th_int
    · exact th_ints h2 (by omega)
theorem paired_mem {α β : Type} {F : α → β → Prop} : ∀ {a : List α} {b : List β} {x : α}, Paired F a b → x ∈ a → ∃ y, y ∈ b ∧ F x y
  | _, _, _, .nil, h => by simp at h
  | _, _, x, .cons r t, h => by
    rcases List.mem_cons.mp h with rfl | h
    · exact ⟨_, List.mem_cons_self, r⟩
    · obtain ⟨y, h1, h2⟩ := paired_mem t h
      exact ⟨y, List.mem_cons_of_mem _ h1, h2⟩
theorem steps_ok {H : Hp} {a : Addr} {xs : List V} {sts : List Stp} {n : Nat} (h : H a = some (.lst xs)) (hst : Paired (StepV H) xs sts) (ok : ∀ x ∈ sts, OkS n x) : stepsB H (n : Int) (.ref a) = true := by
  have e : stepsB H (n : Int) (.ref a) = xs.all (stepB H (n : Int)) := by
    unfold stepsB
    simp only [h]
  rw [e]
  refine List.all_eq_true.mpr fun x hx => ?_
  obtain ⟨st, h1, h2⟩ := paired_mem hst hx
  exact step_ok h2 (ok st h1)
theorem th_steps {K : PySem.W.Frag} {H : Hp} {a : Addr} {xs : List V} {sts : List Stp} {n : Nat} (h : H a = some (.lst xs)) (hl : xs.length ≤ 100000) (hst : Paired (StepV H) xs sts) (ok : ∀ x ∈ sts, OkS n x) (hn : n ≤ 1000) : Th K H 3 (.ref a) := by
  refine th_lst h hl fun y hy => ?_
  obtain ⟨st, h1, h2⟩ := paired_mem hst hy
  exact th_step h2 (ok st h1) hn
theorem ok24 {n : Nat} {st : Stp} (h : OkS n st) (hn : n ≤ 24) : OkS 24 st := by
  cases st with
  | none => exact True.intro
  | some fw =>
    obtain ⟨f, ws⟩ := fw
    obtain ⟨o1, o2, o3, o4⟩ := h
    exact ⟨o1, o2, by omega, o4⟩
/-- fields that are set one after the other -/
def fs6 (ca : Addr) (w : Int) (sl pl pe : Addr) (n : V) : List (Str × V) := putF "_epochs" n (putF "_piece_epochs" (.ref pe) (putF "_pieces" (.ref pl) (putF "_steps" (.ref sl) (putF "_width" (.int w) (putF "_base" (.ref ca) [])))))
/-- all but the object at x stands -/
def Ko (x : Addr) (H H' : Hp) : Prop := ∀ a o, a ≠ x → H a = some o → H' a = some o
theorem Ko.same {x : Addr} {H H1 H2 : Hp} (k : Ko x H H1) (s : Same H1 H2) : Ko x H H2 := fun a o n e => s _ _ (k a o n e)
theorem Ko.upd {x : Addr} {H H1 : Hp} {o : HO} (k : Ko x H H1) : Ko x H (L2.upd H1 x o) := fun a u n e => by
  rw [upd_ne n]
  exact k a u n e
theorem steps_ko {x C dx : Addr} {fs : List (Str × V)} {H H' : Hp} (k : Ko x H H') (hx : H x = some (.ins C dx fs)) {xs : List V} {sts : List Stp} (h : Paired (StepV H) xs sts) : Paired (StepV H') xs sts := L2.Paired.mapP h fun v st z => by
  have nt : ∀ {a : Addr} {l : List V}, H a = some (.tup l) → H' a = some (.tup l) := fun {a l} e => k a _ (ne_of e hx (by intro q; cases q)) e
  cases st with
  | none => exact z
  | some fw =>
    obtain ⟨f, ws⟩ := fw
    obtain ⟨a, b, e, h1, h2⟩ := z
    exact ⟨a, b, e, nt h1, nt h2⟩
theorem int_in {ns : List Int} {j : Nat} (h : j < ns.length) : ∃ z : Int, (ivs ns)[j]? = some (.int z) := ⟨_, ivs_get h⟩
theorem len_put {f : Str} {v : V} {fs : List (Str × V)} {n : Nat} (h : fs.length ≤ n) : (putF f v fs).length ≤ n + 1 := Nat.le_trans (length_putF f v fs) (Nat.succ_le_succ h)
theorem put_at {f : Str} {v : V} {fs : List (Str × V)} : (putF f v fs).lookup f = some v := by
  rw [lookup_putF, if_pos rfl]
theorem put_no {f g : Str} {v u : V} {fs : List (Str × V)} (h : fs.lookup g = some u) (n : ¬ g = f := by decide +kernel) : (putF f v fs).lookup g = some u := by
  rw [lookup_putF, if_neg n]
  exact h
section
variable {P : Program} {w : World} {K : PySem.W.Frag} {mg : Str → Option Value} {base : Heap}
theorem ok_init {f C : Addr} {fd : FuncData} (F : Fun K "__init__" "Plan.__init__" s_Plan___init f fd) (T : Txt mg) (TC : PlanC K mg C)
    (c_is_content : Cal P w K mg base 4 "is_content" ["thing"] (sp_is_content K)) (c_is_width : Cal P w K mg base 2 "is_width" ["thing"] (sp_is_width K)) (c_are_steps : Cal P w K mg base 5 "are_steps" ["cells", "width", "thing"] (sp_are_steps K sp_room))
    (c_epochs_of : Cal P w K mg base 1 "_epochs_of" ["steps"] sp_epochs) (c_pieces_of : Cal P w K mg base 2 "_pieces_of" ["width", "steps"] sp_pieces) :
    FnOk P w K mg base CX0 6 f fd ["self", "base", "width", "steps"] (sp_init C) := by
  refine F.ok sc_Plan___init (fun vs H Q E h => ?_) (fun cdv A outer s H vs Q E hr h => ?_)
  · obtain ⟨_, _, _, _, _, _, rfl, _⟩ := h
    rfl
  obtain ⟨x, dx, ca, sa, pl, xs, rfl, hx, hca, hsa, hst, gd, k⟩ := h
  refine ⟨_, (pss_cons (ps_cut (ps_if (PW.pt (pw_or (pt_not (pt_val (pe_cal c_is_content hr (pa_cons (pv 1) pa_nil)))) (pw_or (pt_not (pt_val (pe_cal c_is_width hr (pa_cons (pv 2) pa_nil)))) (pw_or1 (pt_not (pt_val (pe_cal c_are_steps hr (pa_cons (pe_callB call_len' (by rfl) T.len (by decide +kernel) (pa_cons (pv 1) pa_nil)) (pa_cons (pv 2) (pa_cons (pv 3) pa_nil))))))))))
      (pss_one ps_never)
      pss_nil))
    (pss_cons (ps_set (i := 4) sc_Plan___init.nd rfl (Or.inr rfl) (pe_cal c_epochs_of hr (pa_cons (pv 3) pa_nil)))
    (pss_cons (ps_fld (pv 0) (pv 1) rfl)
    (pss_cons (ps_fld (pv 0) (pv 2) rfl)
    (pss_cons (ps_fld (pv 0) (pe_callTy call_list' (by rfl) T.list (by decide +kernel) (pa_cons (pv 3) pa_nil)) rfl)
    (pss_cons (ps_fld (pv 0) (pe_cal c_pieces_of hr (pa_cons (pv 2) (pa_cons (pv 3) pa_nil))) rfl)
    (pss_cons (ps_fld (pv 0) (pe_lc (own := [("piece", 5)]) (g := (gName 5)) (tt := tYes) rfl sc_Plan___init.nd (pi_list (pe_fld (pv 0) rfl)) (blkOk_by (own := [("piece", 5)]) (N := N_Plan___init) (sc := defScope s_Plan___init) (by decide +kernel)) (fun _ _ _ _ _ => pg_name (i := 5) sc_Plan___init.nd rfl (Or.inl rfl)) (fun _ _ _ _ _ => pts_nil) (fun _ _ _ _ _ => (pe_ix ix_seq' (pv 4) (pe_ix ix_seq' (pv 5) pe_int (fun _ _ => rfl)) (fun _ _ => rfl)))) rfl)
    (pss_one (ps_fld (pv 0) (pe_op op_add (pe_bm PySem.F.plainAttrs_list PySem.F.slot_list_count PySem.F.type_list_count (mt_countN (Nat.lt_of_le_of_lt (Nat.add_le_add_left (by decide) _) hr.units)) (pv 3) (pa_cons pe_non pa_nil)) pe_int) rfl))))))))), ?_⟩
  have xl := paired_len hst
  have l1 := gd.sl
  have l2 := gd.c24
  have l3 := gd.tl
  -- the questions, all of them right
  refine ⟨fun σ' H' => σ' = [some (.ref x), some (.ref ca), some (.int pl.w), some (.ref sa), none, none] ∧ Same H H', ?_, ?_⟩
  · refine ⟨_, rfl, _, rfl, th_ints hca (by omega), fun H1 s1 => ⟨_, rfl, ?_⟩⟩
    rw [content_ok hca gd.c1 gd.c24 gd.cb]
    refine iteF ⟨_, rfl, _, "int", rfl, ⟨.int _, by decide, fun _ _ _ e => by cases e⟩, ?_⟩
    rw [width_ok gd.w1 gd.w24]
    refine ⟨_, rfl, iteF ?_⟩
    have so := steps_ok (s1 _ _ hsa) (steps_same s1 hst) (fun y hy => gd.st y hy)
    refine ⟨_, rfl, ca, _, rfl, .inr (s1 _ _ hca), _, rfl, _, rfl, _, _, .ref sa, rfl, th_steps (s1 _ _ hsa) (by omega) (steps_same s1 hst) (fun y hy => gd.st y hy) (by omega), fun z => ?_, fun _ H2 s2 => ?_⟩
    · rw [ivs_len, so] at z
      cases z
    · exact ⟨pl.w, sa, xs, pl.sts, rfl, s2 _ _ (s1 _ _ hsa), steps_same (s1.trans s2) hst, by have := gd.w1; omega, by omega, fun y hy => ok24 (gd.st y hy) gd.c24, gd.tl, fun H3 s3 => ⟨_, rfl, iteF ⟨rfl, s1.trans (s2.trans s3)⟩⟩⟩
  rintro _ H2 ⟨rfl, S2⟩
  -- the epochs of the steps
  refine ⟨_, rfl, sa, xs, rfl, S2 _ _ hsa, by omega, fun el H3 es s3 hel h3 hlen => ?_⟩
  have k3 : Ko x H H3 := fun a o _ e => (S2.trans s3) _ _ e
  have x3 : H3 x = some (.ins C dx []) := (S2.trans s3) _ _ hx
  have nca : ca ≠ x := ne_of hca hx (by intro q; cases q)
  have nsa : sa ≠ x := ne_of hsa hx (by intro q; cases q)
  have nel : el ≠ x := ne_of h3 x3 (by intro q; cases q)
  -- base, width, steps
  refine ⟨_, rfl, _, rfl, x, C, dx, _, rfl, x3, TC.cl, TC.nB, by show 0 < 1000; decide, ?_⟩
  refine ⟨_, rfl, _, rfl, x, C, dx, _, rfl, upd_same, TC.cl, TC.nW, Nat.lt_of_le_of_lt (len_put (Nat.le_refl _)) (by decide), ?_⟩
  have k5 := (k3.upd (o := .ins C dx (putF "_base" (.ref ca) []))).upd (o := .ins C dx (putF "_width" (.int pl.w) (putF "_base" (.ref ca) [])))
  have e5 : (L2.upd (L2.upd H3 x (.ins C dx (putF "_base" (.ref ca) []))) x (.ins C dx (putF "_width" (.int pl.w) (putF "_base" (.ref ca) [])))) el = some (.lst (ivs es)) := by rw [upd_ne nel, upd_ne nel]; exact h3
  generalize hH5 : L2.upd (L2.upd H3 x (.ins C dx (putF "_base" (.ref ca) []))) x (.ins C dx (putF "_width" (.int pl.w) (putF "_base" (.ref ca) []))) = H5 at k5 e5
  have x5 : H5 x = some (.ins C dx (putF "_width" (.int pl.w) (putF "_base" (.ref ca) []))) := by rw [← hH5]; exact upd_same
  have f5 : ∀ a, H5 a = none → H a = none := fun a e => by
    cases z : H a with
    | none => rfl
    | some o =>
      by_cases n : a = x
      · rw [n, x5] at e
        cases e
      · rw [k5 a o n z] at e
        cases e
  refine ⟨_, rfl, sa, xs, rfl, .inl (k5 _ _ nsa hsa), fun sl H6 hsl s6 h6 => ?_⟩
  have x6 := s6 _ _ x5
  have nsl : sl ≠ x := ne_of h6 x6 (by intro q; cases q)
  refine ⟨_, rfl, x, C, dx, _, rfl, x6, TC.cl, TC.nS, Nat.lt_of_le_of_lt (len_put (len_put (Nat.le_refl _))) (by decide), ?_⟩
  have k7 := (k5.same s6).upd (o := .ins C dx (putF "_steps" (.ref sl) (putF "_width" (.int pl.w) (putF "_base" (.ref ca) []))))
  -- the pieces
  refine ⟨_, rfl, _, rfl, pl.w, sa, xs, pl.sts, rfl, k7 _ _ nsa hsa, steps_ko k7 hx hst, by have := gd.w1; omega, by omega, fun y hy => ok24 (gd.st y hy) gd.c24, fun ql H8 ys s8 hql h8 ylen pv => ?_⟩
  have x8 := s8 _ _ (upd_same (H := H6) (a := x) (o := .ins C dx (putF "_steps" (.ref sl) (putF "_width" (.int pl.w) (putF "_base" (.ref ca) [])))))
  have k8 := k7.same s8
  have nql : ql ≠ x := ne_of h8 x8 (by intro q; cases q)
  refine ⟨_, rfl, x, C, dx, _, rfl, x8, TC.cl, TC.nP, Nat.lt_of_le_of_lt (len_put (len_put (len_put (Nat.le_refl _)))) (by decide), ?_⟩
  have sl8 : H8 sl = some (.lst xs) := s8 _ _ (by rw [upd_ne nsl]; exact h6)
  have el8 : H8 el = some (.lst (ivs es)) := s8 _ _ (by rw [upd_ne nel]; exact s6 _ _ e5)
  -- their epochs
  have k9 := k8.upd (o := .ins C dx (putF "_pieces" (.ref ql) (putF "_steps" (.ref sl) (putF "_width" (.int pl.w) (putF "_base" (.ref ca) [])))))
  have q9 : (L2.upd H8 x (.ins C dx (putF "_pieces" (.ref ql) (putF "_steps" (.ref sl) (putF "_width" (.int pl.w) (putF "_base" (.ref ca) [])))))) ql = some (.lst ys) := by rw [upd_ne nql]; exact h8
  have el9 : (L2.upd H8 x (.ins C dx (putF "_pieces" (.ref ql) (putF "_steps" (.ref sl) (putF "_width" (.int pl.w) (putF "_base" (.ref ca) [])))))) el = some (.lst (ivs es)) := by rw [upd_ne nel]; exact el8
  have sl9 : (L2.upd H8 x (.ins C dx (putF "_pieces" (.ref ql) (putF "_steps" (.ref sl) (putF "_width" (.int pl.w) (putF "_base" (.ref ca) [])))))) sl = some (.lst xs) := by rw [upd_ne nsl]; exact sl8
  have p9 : ∀ y ∈ ys, PieceV (L2.upd H8 x (.ins C dx (putF "_pieces" (.ref ql) (putF "_steps" (.ref sl) (putF "_width" (.int pl.w) (putF "_base" (.ref ca) [])))))) xs.length y := fun y hy => by
    obtain ⟨t, j, u, v, e, hj, ht⟩ := pv y hy
    exact ⟨t, j, u, v, e, hj, by rw [upd_ne (ne_of ht x8 (by intro q; cases q))]; exact ht⟩
  have x9 : (L2.upd H8 x (.ins C dx (putF "_pieces" (.ref ql) (putF "_steps" (.ref sl) (putF "_width" (.int pl.w) (putF "_base" (.ref ca) [])))))) x = _ := upd_same
  generalize L2.upd H8 x (.ins C dx (putF "_pieces" (.ref ql) (putF "_steps" (.ref sl) (putF "_width" (.int pl.w) (putF "_base" (.ref ca) []))))) = H9 at k9 q9 el9 sl9 p9 x9
  refine ⟨_, rfl, x, C, dx, _, _, rfl, x9, TC.cl, TC.nP, put_at, ql, rfl, ⟨ys, SqL.of q9⟩, fun D hD => lc_list (K := K) (a := ql) (xs := ys) (fun i H' => Same H9 H' ∧ ∃ zs, H' D = some (.lst zs) ∧ zs.length = i) ?_ ?_ ?_ ?_⟩
  · exact ⟨same_new hD, [], upd_same, rfl⟩
  · rintro i H' _ ⟨s10, _⟩
    exact SqL.of (s10 _ _ q9)
  · rintro i y H' hy ⟨s10, zs, h10, l10⟩
    have il : i < ys.length := (List.getElem?_eq_some_iff.mp hy).1
    obtain ⟨t, j, u, v, rfl, hj, ht⟩ := (p9 y (List.mem_of_getElem? hy)).same s10
    obtain ⟨z, hz⟩ := int_in (ns := es) (j := j) (by omega)
    refine ⟨rfl, _, rfl, _, rfl, t, _, _, _, rfl, rfl, .inr ht, rfl, el, _, _, _, rfl, rfl, .inl (s10 _ _ el9), atI_nat hz, zs, h10, szl (by omega), same_mut s10 hD, _, upd_same, by rw [List.length_append, l10]; rfl⟩
  · rintro H10 ⟨s10, zs, h10, l10⟩
    have x10 := s10 _ _ x9
    refine ⟨_, rfl, x, C, dx, _, rfl, x10, TC.cl, TC.nE, Nat.lt_of_le_of_lt (len_put (len_put (len_put (len_put (Nat.le_refl _))))) (by decide), ?_⟩
    have k11 := (k9.same s10).upd (o := .ins C dx (putF "_piece_epochs" (.ref D) (putF "_pieces" (.ref ql) (putF "_steps" (.ref sl) (putF "_width" (.int pl.w) (putF "_base" (.ref ca) []))))))
    refine ⟨_, rfl, .inl ⟨rfl, _, SqL.of (k11 _ _ nsa hsa)⟩, sa, xs, _, rfl, rfl, SqL.of (k11 _ _ nsa hsa), dp_steps (steps_ko k11 hx hst), (lay_steps _).1, fun n => ⟨_, _, rfl, rfl, ?_⟩⟩
    refine ⟨_, rfl, x, C, dx, _, rfl, upd_same, TC.cl, TC.nN, Nat.lt_of_le_of_lt (len_put (len_put (len_put (len_put (len_put (Nat.le_refl _)))))) (by decide), ?_⟩
    refine k _ sl _ k11.upd (f5 _ hsl) upd_same ?_ ?_ ?_ ?_
    · exact put_no (put_no (put_no (put_no (put_no put_at))))
    · exact put_no (put_no (put_no (put_no put_at)))
    · exact put_no (put_no (put_no put_at))
    · rw [upd_ne nsl, upd_ne nsl]
      exact s10 _ _ sl9
end
end Af

set_option Elab.async false
set_option linter.all false
set_option maxRecDepth 100000
set_option maxHeartbeats 4000000
namespace Af
open PySem L2
section
variable {P : Program} {w : World} {K : PySem.W.Frag} {mg : Str → Option Value} {base : Heap}
theorem ok_plan_of {f C fI : Addr} {fd fdI : FuncData} (F : Fun K "_law_plan_of" "_law_plan_of" s_l_plan_of f fd) (T : Txt mg) (TC : PlanC K mg C) (M_Plan : Mk K C fI)
    (G_Plan : FnOk P w K mg base CX0 6 fI fdI ["self", "base", "width", "steps"] (sp_init C)) (b_Plan : Binds K fdI ["self", "base", "width", "steps"] []) : FnOk P w K mg base CX0 8 f fd ["_law_plan_here"] (sp_plan_of C) := by
  have c_Plan := TC.mgC
  refine F.ok sc_l_plan_of (fun vs H Q E h => ?_) (fun cdv A outer s H vs Q E hr h => ?_)
  · obtain ⟨_, _, _, rfl, _⟩ := h
    rfl
  obtain ⟨p, v, pl, rfl, hp, hv, gd, k⟩ := h
  refine ⟨_, (pss_one (ps_ret (pe_make M_Plan G_Plan hr rfl c_Plan b_Plan .nil pass0 (pa_cons (pe_ix ix_seq' (pv 0) pe_int (fun _ _ => rfl)) (pa_cons (pe_ix ix_seq' (pv 0) pe_int (fun _ _ => rfl)) (pa_cons (pe_ix ix_seq' (pv 0) pe_int (fun _ _ => rfl)) pa_nil)))))), ?_⟩
  obtain ⟨a, ca, sa, xs, rfl, h1, h2, n, h3, h4⟩ := hv.ex
  refine ⟨_, rfl, a, _, _, _, rfl, rfl, .inr h1, rfl, _, rfl, a, _, _, _, rfl, rfl, .inr h1, rfl, _, rfl, a, _, _, _, rfl, rfl, .inr h1, rfl, fun x dx hx hdx ndx => ?_⟩
  have s0 : Same H (upd (upd H dx (.own x)) x (.ins C dx [])) := fun b o e => by
    rw [upd_ne (ne_of_none e hx), upd_ne (ne_of_none e hdx)]
    exact e
  refine ⟨x, dx, ca, sa, pl, xs, rfl, upd_same, s0 _ _ h2, s0 _ _ h3, steps_same s0 h4, gd, fun H' sl fs ko nsl hx' l1 l2 l3 hsl => ⟨rfl, ?_⟩⟩
  have s1 : Same H H' := fun b o e => ko b o (ne_of_none e hx) (s0 b o e)
  obtain ⟨l, hl⟩ := hp
  refine k _ H' s1 ⟨x, dx, ca, sl, fs, xs, rfl, hx', l1, l2, l3, s1 _ _ h2, fun z => ?_, hsl, steps_same s1 h4⟩
  rw [z] at nsl
  rw [s0 _ _ hl] at nsl
  cases nsl
end
end Af

set_option Elab.async false
set_option linter.all false
set_option maxRecDepth 100000
namespace Af
open PySem L2
/-- a drawn plan whose list of steps is neither the pen's nor the one at l -/
structure PlanL (p l : Addr) (H : Hp) (v : V) (pl : Pl) : Prop where
  ex : ∃ a ca sa xs, v = .ref a ∧ H a = some (.tup [.ref ca, .int pl.w, .ref sa]) ∧ H ca = some (.tup (ivs pl.cs)) ∧ sa ≠ p ∧ sa ≠ l ∧ H sa = some (.lst xs) ∧ Paired (StepV H) xs pl.sts
theorem PlanL.v {p l : Addr} {H : Hp} {v : V} {pl : Pl} (h : PlanL p l H v pl) : PlanV p H v pl := by
  obtain ⟨a, ca, sa, xs, e, h1, h2, n, _, h3, h4⟩ := h.ex
  exact ⟨a, ca, sa, xs, e, h1, h2, n, h3, h4⟩
theorem PlanV.toL {p l : Addr} {H H' : Hp} {v : V} {pl : Pl} (h : PlanV p H v pl) (n : H l = none) (s : Same H H') : PlanL p l H' v pl := by
  obtain ⟨a, ca, sa, xs, e, h1, h2, np, h3, h4⟩ := h.ex
  exact ⟨a, ca, sa, xs, e, s _ _ h1, s _ _ h2, np, ne_of_none h3 n, s _ _ h3, steps_same s h4⟩
theorem PlanL.same {p l : Addr} {H H' : Hp} {v : V} {pl : Pl} (h : PlanL p l H v pl) (s : Same H H') : PlanL p l H' v pl := by
  obtain ⟨a, ca, sa, xs, e, h1, h2, np, nl, h3, h4⟩ := h.ex
  exact ⟨a, ca, sa, xs, e, s _ _ h1, s _ _ h2, np, nl, s _ _ h3, steps_same s h4⟩
theorem kp_upd {l : Addr} {H : Hp} {ys zs : List V} (e : H l = some (.lst ys)) : Kp l H (L2.upd H l (.lst zs)) := fun a o n k => by
  by_cases z : a = l
  · rcases n with n | n
    · exact absurd z n
    · rw [z, e] at k
      exact absurd (Option.some.inj k).symm (n ys)
  · rw [upd_ne z]
    exact k
theorem PlanL.upd {p l : Addr} {H : Hp} {v : V} {pl : Pl} {ys zs : List V} (h : PlanL p l H v pl) (e : H l = some (.lst ys)) : PlanL p l (L2.upd H l (.lst zs)) v pl := by
  have k := kp_upd (zs := zs) e
  obtain ⟨a, ca, sa, xs, e, h1, h2, np, nl, h3, h4⟩ := h.ex
  exact ⟨a, ca, sa, xs, e, k.tup h1, k.tup h2, np, nl, k.lst nl h3, steps_kp k h4⟩
/-- a list of plans that the program takes -/
def PlansL (p l : Addr) (H : Hp) (vs : List V) : Prop := ∀ v ∈ vs, ∃ pl, PlanL p l H v pl ∧ Good 40 40 pl
def Plans (p : Addr) (H : Hp) (vs : List V) : Prop := ∀ v ∈ vs, ∃ pl, PlanV p H v pl ∧ Good 40 40 pl
theorem Plans.toL {p l : Addr} {H H' : Hp} {vs : List V} (h : Plans p H vs) (n : H l = none) (s : Same H H') : PlansL p l H' vs := fun v hv => by
  obtain ⟨pl, h1, h2⟩ := h v hv
  exact ⟨pl, h1.toL n s, h2⟩
theorem PlansL.v {p l : Addr} {H : Hp} {vs : List V} (h : PlansL p l H vs) : Plans p H vs := fun v hv => by
  obtain ⟨pl, h1, h2⟩ := h v hv
  exact ⟨pl, h1.v, h2⟩
theorem PlansL.same {p l : Addr} {H H' : Hp} {vs : List V} (h : PlansL p l H vs) (s : Same H H') : PlansL p l H' vs := fun v hv => by
  obtain ⟨pl, h1, h2⟩ := h v hv
  exact ⟨pl, h1.same s, h2⟩
theorem PlansL.upd {p l : Addr} {H : Hp} {vs ys zs : List V} (h : PlansL p l H vs) (e : H l = some (.lst ys)) : PlansL p l (L2.upd H l (.lst zs)) vs := fun v hv => by
  obtain ⟨pl, h1, h2⟩ := h v hv
  exact ⟨pl, h1.upd e, h2⟩
theorem PlansL.app {p l : Addr} {H : Hp} {vs us : List V} (h : PlansL p l H vs) (k : PlansL p l H us) : PlansL p l H (vs ++ us) := fun v hv => by
  rcases List.mem_append.mp hv with hv | hv
  · exact h v hv
  · exact k v hv
theorem PlansL.one {p l : Addr} {H : Hp} {v : V} {pl : Pl} (h : PlanL p l H v pl) (g : Good 40 40 pl) : PlansL p l H [v] := fun u hu => by
  rw [List.mem_singleton.mp hu]
  exact ⟨pl, h, g⟩
theorem Plans.nil {p : Addr} {H : Hp} : Plans p H [] := fun v hv => by simp at hv
theorem Plans.app {p : Addr} {H : Hp} {vs us : List V} (h : Plans p H vs) (k : Plans p H us) : Plans p H (vs ++ us) := fun v hv => by
  rcases List.mem_append.mp hv with hv | hv
  · exact h v hv
  · exact k v hv
theorem Plans.cons {p : Addr} {H : Hp} {v : V} {vs : List V} {pl : Pl} (h : PlanV p H v pl) (g : Good 40 40 pl) (k : Plans p H vs) : Plans p H (v :: vs) := fun u hu => by
  rcases List.mem_cons.mp hu with rfl | hu
  · exact ⟨pl, h, g⟩
  · exact k u hu
theorem Plans.same {p : Addr} {H H' : Hp} {vs : List V} (h : Plans p H vs) (s : Same H H') : Plans p H' vs := fun v hv => by
  obtain ⟨pl, h1, h2⟩ := h v hv
  exact ⟨pl, h1.same s, h2⟩
/-- a plan changed at one place -/
theorem Good.cells {pl : Pl} {cs : List Int} (g : Good 40 40 pl) (c1 : pl.cs.length ≤ cs.length) (c2 : cs.length ≤ 24) (cb : ∀ z ∈ cs, 0 ≤ z ∧ z < 8) : Good 40 40 ⟨cs, pl.w, pl.sts⟩ := by
  refine ⟨Nat.le_trans g.c1 c1, c2, cb, g.w1, g.w24, fun x hx => ?_, g.sl, g.tl⟩
  have o := g.st x hx
  cases x with
  | none => exact True.intro
  | some fw =>
    obtain ⟨f, ws⟩ := fw
    obtain ⟨o1, o2, o3, o4⟩ := o
    exact ⟨o1, o2, by show f + (ws.length : Int) ≤ (cs.length : Int); omega, o4⟩
theorem Good.width {pl : Pl} {w : Int} (g : Good 40 40 pl) (h1 : 1 ≤ w) (h2 : w ≤ 24) : Good 40 40 ⟨pl.cs, w, pl.sts⟩ := ⟨g.c1, g.c24, g.cb, h1, h2, g.st, g.sl, g.tl⟩
theorem Good.steps {s t : Nat} {pl : Pl} {sts : List Stp} (g : Good s t pl) (h : ∀ x ∈ sts, OkS pl.cs.length x) (h1 : sts.length ≤ 40) (h2 : tot sts ≤ 40) : Good 40 40 ⟨pl.cs, pl.w, sts⟩ := ⟨g.c1, g.c24, g.cb, g.w1, g.w24, h, h1, h2⟩
theorem tot_drop_le (l : List Stp) (n : Nat) : tot (l.drop n) ≤ tot l := by
  have := tot_take_drop l n
  omega
/-- one step taken out, another one put in its place -/
theorem steps_at {l : List Stp} {i : Nat} {a b : Stp} {n : Nat} (hi : l[i]? = some a) (hb : stl b = stl a) (ob : OkS n b) (ok : ∀ x ∈ l, OkS n x) :
    (∀ x ∈ (l.take i ++ [b]) ++ l.drop (i + 1), OkS n x) ∧ ((l.take i ++ [b]) ++ l.drop (i + 1)).length = l.length ∧ tot ((l.take i ++ [b]) ++ l.drop (i + 1)) = tot l := by
  have hlt : i < l.length := (List.getElem?_eq_some_iff.mp hi).1
  have e : l.drop i = a :: l.drop (i + 1) := by
    rw [List.drop_eq_getElem_cons hlt]
    congr 1
    rw [List.getElem?_eq_getElem hlt] at hi
    exact Option.some.inj hi
  refine ⟨fun x hx => ?_, ?_, ?_⟩
  · rcases List.mem_append.mp hx with hx | hx
    · rcases List.mem_append.mp hx with hx | hx
      · exact ok x (List.mem_of_mem_take hx)
      · rw [List.mem_singleton.mp hx]
        exact ob
    · exact ok x (List.mem_of_mem_drop hx)
  · rw [List.length_append, List.length_append, List.length_take, List.length_drop]
    show min i l.length + 1 + (l.length - (i + 1)) = l.length
    omega
  · rw [tot_app, tot_app, tot_one, hb]
    have t := tot_take_drop l i
    rw [e, tot_cons] at t
    omega
end Af

set_option Elab.async false
set_option linter.all false
set_option maxRecDepth 100000
set_option maxHeartbeats 4000000
namespace Af
open PySem L2
abbrev s_l_beside : Stmt := top 35
abbrev N_l_beside : List Str := ["_law_pen_here", "_law_plan_here", "_law_cells_here", "_law_span_here", "_law_steps_here", "_law_spot", "_law_other", "_law_found", "_law_index", "_law_row", "_law_changed"]
theorem sc_l_beside : FnScope N_l_beside ["_law_pen_here", "_law_plan_here"] (defScope s_l_beside) := ⟨rfl, rfl, rfl, by decide +kernel, rfl, by decide +kernel, by decide +kernel⟩

def sp_beside : Sp := fun vs H Q _ => ∃ (q : Pn) (m : Nat) (v : V) (pl : Pl), vs = [.ref q.p, v] ∧ Pen q m H ∧ m < 1000000000000 ∧ PlanV q.p H v pl ∧ Good 24 31 pl ∧ pl.cs.length ≤ 5 ∧
  ∀ l H' us, Go q (m + 1) H H' → l ≠ q.p → H' l = some (.lst us) → Plans q.p H' us → us.length ≤ 100 → Q (.ref l) H'
theorem cut_to {xs : List V} {s : Nat} (h : s ≤ xs.length) : cutV xs none (some (s : Int)) = xs.take s := by
  unfold cutV
  rw [HT.sIx_none, HT.sIx_nat, List.drop_zero, Nat.sub_zero, Nat.min_eq_left h]
theorem cut_from {xs : List V} {s : Nat} (h : s ≤ xs.length) : cutV xs (some (s : Int)) none = xs.drop s := by
  unfold cutV
  rw [HT.sIx_none, HT.sIx_nat, Nat.min_eq_left h, List.take_of_length_le (Nat.le_of_eq (List.length_drop ..))]
theorem cut_from' {xs : List V} {s : Nat} : cutV xs (some (s : Int)) none = xs.drop s := by
  unfold cutV
  rw [HT.sIx_none, HT.sIx_nat]
  rcases Nat.le_total s xs.length with h | h
  · rw [Nat.min_eq_left h, List.take_of_length_le (Nat.le_of_eq (List.length_drop ..))]
  · rw [Nat.min_eq_right h, Nat.sub_self, List.take_zero, List.drop_of_length_le h]
theorem cut_to0 {xs : List V} {s : Nat} (h : s ≤ xs.length) : cutV xs none (some (0 + (s : Int))) = xs.take s := by
  rw [Int.zero_add]
  exact cut_to h
theorem cut_from0 {xs : List V} {s : Nat} : cutV xs (some (0 + (s : Int) + 1)) none = xs.drop (s + 1) := by
  rw [Int.zero_add]
  exact cut_from' (s := s + 1)
theorem cut_last {ws : List Int} : cutV (ivs ws) none (some (-1)) = ivs (ws.take (ws.length - 1)) := by
  unfold cutV
  have e : HT.sIx (ivs ws).length (ivs ws).length (some (-1)) = ws.length - 1 := by
    show (if (-1 : Int) < 0 then ((-1 : Int) + ((ivs ws).length : Int)).toNat else min (-1 : Int).toNat (ivs ws).length) = ws.length - 1
    rw [if_pos (by decide), ivs_len]
    omega
  rw [HT.sIx_none, e, List.drop_zero, Nat.sub_zero]
  unfold ivs
  rw [List.map_take]
theorem at_last {ws : List Int} (h : ws ≠ []) : ∃ z, atI (ivs ws) (-1) = some (.int z) := by
  have hp : 0 < ws.length := List.length_pos_iff.mpr h
  have e : ixN (ivs ws).length (-1) = some (ws.length - 1) := by
    unfold ixN
    rw [if_neg (by decide), ivs_len, if_pos (by omega)]
    congr 1
    omega
  unfold atI
  rw [e]
  exact ⟨_, ivs_get (by omega)⟩
section
variable {P : Program} {w : World} {K : PySem.W.Frag} {mg : Str → Option Value} {base : Heap}
theorem ok_beside {f : Addr} {fd : FuncData} (F : Fun K "_law_beside" "_law_beside" s_l_beside f fd) (T : Txt mg) (c_l_draw : Cal P w K mg base 2 "_law_draw" ["_law_pen_here", "_law_under"] sp_draw) :
    FnOk P w K mg base CX0 3 f fd ["_law_pen_here", "_law_plan_here"] sp_beside := by
  refine F.ok sc_l_beside (fun vs H Q E h => ?_) (fun cdv A outer s H vs Q E hr h => ?_)
  · obtain ⟨_, _, _, _, rfl, _⟩ := h
    rfl
  obtain ⟨q, m, v, pl, rfl, hP, hm, hv, gd, c5, k⟩ := h
  refine ⟨_, (pss_cons (ps_asg (pv 1) (pg_tup rfl (pgs_cons (pg_name (i := 2) sc_l_beside.nd rfl (Or.inl rfl)) (pgs_cons (pg_name (i := 3) sc_l_beside.nd rfl (Or.inl rfl)) (pgs_cons (pg_name (i := 4) sc_l_beside.nd rfl (Or.inl rfl)) pgs_nil)))))
    (pss_cons (ps_set (i := 5) sc_l_beside.nd rfl (Or.inl rfl) (pe_cal c_l_draw hr (pa_cons (pv 0) (pa_cons (pe_callB call_len' (by rfl) T.len (by decide +kernel) (pa_cons (pv 2) pa_nil)) pa_nil))))
    (pss_cons (ps_set (i := 6) sc_l_beside.nd rfl (Or.inl rfl) (pe_op op_catT' (pe_op op_catT' (pe_slice sl_tup' (pv 2) po_none (po_some (pv 5))) (pe_tup' (pa_cons (pe_op op_mod (pe_callTy call_int1 (by rfl) T.int (by decide +kernel) (pa_cons (pe_op op_add (pe_ix ix_seq' (pv 2) (pv 5) (fun _ _ => rfl)) pe_int) pa_nil)) pe_int) pa_nil))) (pe_slice sl_tup' (pv 2) (po_some (pe_op op_add (pv 5) pe_int)) po_none)))
    (pss_cons (ps_set (i := 7) sc_l_beside.nd rfl (Or.inl rfl) (pe_lst' (pa_cons (pe_tup' (pa_cons (pv 6) (pa_cons (pv 3) (pa_cons (pv 4) pa_nil)))) (pa_cons (pe_tup' (pa_cons (pv 2) (pa_cons (pe_op op_add pe_int (pe_op op_mod (pe_callTy call_int1 (by rfl) T.int (by decide +kernel) (pa_cons (pv 3) pa_nil)) pe_int)) (pa_cons (pv 4) pa_nil)))) pa_nil))))
    (pss_cons (ps_expr (pe_bm PySem.F.plainAttrs_list PySem.F.slot_list_append PySem.F.type_list_append mt_append (pv 7) (pa_cons (pe_tup' (pa_cons (pv 2) (pa_cons pe_int (pa_cons (pv 4) pa_nil)))) pa_nil)))
    (pss_cons (ps_set (i := 7) sc_l_beside.nd rfl (Or.inl rfl) (pe_op op_cat' (pv 7) (pe_lst' (pa_cons (pe_tup' (pa_cons (pv 2) (pa_cons (pv 3) (pa_cons (pe_op op_cat' (pv 4) (pe_lst' (pa_cons pe_non pa_nil))) pa_nil)))) (pa_cons (pe_tup' (pa_cons (pv 2) (pa_cons (pv 3) (pa_cons (pe_op op_cat' (pe_lst' (pa_cons pe_non pa_nil)) (pv 4)) pa_nil)))) pa_nil)))))
    (pss_cons (ps_set (i := 7) sc_l_beside.nd rfl (Or.inl rfl) (pe_op op_cat' (pv 7) (pe_lst' (pa_cons (pe_tup' (pa_cons (pv 2) (pa_cons (pv 3) (pa_cons (pe_slice sl_list' (pv 4) (po_some pe_int) po_none) pa_nil)))) (pa_cons (pe_tup' (pa_cons (pv 2) (pa_cons (pv 3) (pa_cons (pe_rev' (pv 4)) pa_nil)))) pa_nil)))))
    (pss_cons (ps_for PassesOwn.never rfl (pi_range1 rfl T.range (pa_cons (pe_callB call_len' (by rfl) T.len (by decide +kernel) (pa_cons (pv 4) pa_nil)) pa_nil)) (pg_name (i := 8) sc_l_beside.nd rfl (Or.inl rfl))
      (pss_cons (ps_set (i := 9) sc_l_beside.nd rfl (Or.inl rfl) (pe_ix ix_seq' (pv 4) (pv 8) (fun _ _ => rfl)))
    (pss_one (ps_if (pt_cmpR op_notN (pv 9) pe_non (nomark _))
      (pss_cons (ps_set (i := 10) sc_l_beside.nd rfl (Or.inl rfl) (pe_tup' (pa_cons (pe_ix ix_seq' (pv 9) pe_int (fun _ _ => rfl)) (pa_cons (pe_op op_catT' (pe_slice sl_tup' (pe_ix ix_seq' (pv 9) pe_int (fun _ _ => rfl)) po_none (po_some (pe_un un_neg pe_int))) (pe_tup' (pa_cons (pe_op op_mod (pe_callTy call_int1 (by rfl) T.int (by decide +kernel) (pa_cons (pe_op op_add (pe_ix ix_seq' (pe_ix ix_seq' (pv 9) pe_int (fun _ _ => rfl)) (pe_un un_neg pe_int) (fun _ _ => rfl)) pe_int) pa_nil)) pe_int) pa_nil))) pa_nil))))
    (pss_cons (ps_expr (pe_bm PySem.F.plainAttrs_list PySem.F.slot_list_append PySem.F.type_list_append mt_append (pv 7) (pa_cons (pe_tup' (pa_cons (pv 2) (pa_cons (pv 3) (pa_cons (pe_op op_cat' (pe_op op_cat' (pe_slice sl_list' (pv 4) po_none (po_some (pv 8))) (pe_lst' (pa_cons (pv 10) pa_nil))) (pe_slice sl_list' (pv 4) (po_some (pe_op op_add (pv 8) pe_int)) po_none)) pa_nil)))) pa_nil)))
    (pss_one (ps_if (pt_cmpR op_gt (pe_ix ix_seq' (pv 9) pe_int (fun _ _ => rfl)) pe_int (nomark _))
      (pss_cons (ps_set (i := 10) sc_l_beside.nd rfl (Or.inl rfl) (pe_tup' (pa_cons (pe_op op_sub (pe_ix ix_seq' (pv 9) pe_int (fun _ _ => rfl)) pe_int) (pa_cons (pe_ix ix_seq' (pv 9) pe_int (fun _ _ => rfl)) pa_nil))))
    (pss_one (ps_expr (pe_bm PySem.F.plainAttrs_list PySem.F.slot_list_append PySem.F.type_list_append mt_append (pv 7) (pa_cons (pe_tup' (pa_cons (pv 2) (pa_cons (pv 3) (pa_cons (pe_op op_cat' (pe_op op_cat' (pe_slice sl_list' (pv 4) po_none (po_some (pv 8))) (pe_lst' (pa_cons (pv 10) pa_nil))) (pe_slice sl_list' (pv 4) (po_some (pe_op op_add (pv 8) pe_int)) po_none)) pa_nil)))) pa_nil)))))
      pss_nil))))
      pss_nil))))
    (pss_one (ps_ret (pe_op op_cat' (pv 7) (pe_lst' (pa_cons (pe_tup' (pa_cons (pe_op op_catT' (pv 2) (pe_tup' (pa_cons pe_int pa_nil))) (pa_cons (pv 3) (pa_cons (pv 4) pa_nil)))) pa_nil))))))))))))), ?_⟩
  obtain ⟨a, ca, sa, xs, rfl, h1, h2, np, h3, h4⟩ := hv.ex
  have xl := paired_len h4
  have c1 := gd.c1
  have l1 := gd.sl
  have l2 := gd.tl
  have g40 : Good 40 40 pl := gd.mono (by decide) (by decide)
  refine ⟨_, rfl, a, _, rfl, SqT.of h1, rfl, _, _, rfl, _, _, rfl, _, _, rfl, rfl, ?_⟩
  refine ⟨_, rfl, _, rfl, ca, _, rfl, .inr h2, q, m, ((ivs pl.cs).length : Int), rfl, by rw [ivs_len]; omega, by rw [ivs_len]; omega, hP, hm, fun s H1 s0 s1 g1 => ?_⟩
  rw [ivs_len] at s1
  obtain ⟨s, rfl⟩ := Int.eq_ofNat_of_zero_le s0
  have sl : s < pl.cs.length := by omega
  have h2a := g1.kp.tup h2
  obtain ⟨z0, hz0⟩ : ∃ z : Int, (ivs pl.cs)[s]? = some (.int z) := int_in sl
  -- another cell
  refine ⟨_, rfl, _, rfl, (s : Int), rfl, ca, _, rfl, h2a, fun u1 H2 s2 hu1 => ?_⟩
  have h2b := s2 _ _ h2a
  refine ⟨_, rfl, _, rfl, ca, _, _, _, rfl, rfl, .inr h2b, atI_nat hz0, _, _, rfl, rfl, .inl ⟨_, rfl, _, _, rfl, rfl, (by decide : (0 : Int) < 8), szr, fun u2 H3 hn3 s3 hu2 => ?_⟩⟩
  refine ⟨u1, u2, _, _, rfl, rfl, s3 _ _ hu1, hu2, sz ?_, fun u3 H4 s4 hu3 => ?_⟩
  · rw [cut_to (by rw [ivs_len]; omega), List.length_take, ivs_len]
    show min s pl.cs.length + 1 ≤ 100000
    omega
  refine ⟨_, rfl, _, rfl, _, _, rfl, rfl, ((s + 1 : Nat) : Int), rfl, ca, _, rfl, s4 _ _ (s3 _ _ h2b), fun u4 H5 s5 hu4 => ?_⟩
  refine ⟨u3, u4, _, _, rfl, rfl, s5 _ _ hu3, hu4, sz ?_, fun u5 H6 s6 hu5 => ?_⟩
  · rw [cut_to (by rw [ivs_len]; omega), cut_from (by rw [ivs_len]; omega), List.length_append, List.length_take, List.length_drop, ivs_len]
    show min s pl.cs.length + 1 + (pl.cs.length - (s + 1)) ≤ 100000
    omega
  obtain ⟨b0, b1⟩ := mod_in (i := z0 + 1) (n := 8) (by decide)
  have e5 : H6 u5 = some (.tup (ivs ((pl.cs.take s ++ [(z0 + 1) % 8]) ++ pl.cs.drop (s + 1)))) := by
    rw [hu5, cut_to (by rw [ivs_len]; omega), cut_from (by rw [ivs_len]; omega)]
    unfold ivs
    rw [List.map_append, List.map_append, List.map_take, List.map_drop]
    rfl
  have gc : Good 40 40 ⟨(pl.cs.take s ++ [(z0 + 1) % 8]) ++ pl.cs.drop (s + 1), pl.w, pl.sts⟩ := by
    have ll : ((pl.cs.take s ++ [(z0 + 1) % 8]) ++ pl.cs.drop (s + 1)).length = pl.cs.length := by
      rw [List.length_append, List.length_append, List.length_take, List.length_drop]
      show min s pl.cs.length + 1 + (pl.cs.length - (s + 1)) = pl.cs.length
      omega
    refine g40.cells (by omega) (by omega) fun z hz => ?_
    rcases List.mem_append.mp hz with hz | hz
    · rcases List.mem_append.mp hz with hz | hz
      · exact gd.cb z (List.mem_of_mem_take hz)
      · rw [List.mem_singleton.mp hz]
        exact ⟨b0, b1⟩
    · exact gd.cb z (List.mem_of_mem_drop hz)
  have S6 := s2.trans (s3.trans (s4.trans (s5.trans s6)))
  have g6 := g1.same S6
  have v6 := hv.kp g6.kp
  have h36 : H6 sa = some (.lst xs) := g6.kp.lst np h3
  have h46 := steps_kp g6.kp h4
  -- the first two
  refine ⟨_, rfl, _, rfl, _, rfl, szr, fun t1 H7 _ s7 ht1 => ?_⟩
  refine ⟨_, rfl, _, rfl, .inl ⟨_, rfl, _, _, rfl, rfl, (by decide : (0 : Int) < 24), _, _, rfl, rfl, _, rfl, szr, fun t2 H8 _ s8 ht2 => ⟨szr, fun fl H9 hfl s9 hf9 => ?_⟩⟩⟩
  have h38 : H8 sa = some (.lst xs) := s8 _ _ (s7 _ _ h36)
  have p1 : PlanV q.p H8 (.ref t1) ⟨(pl.cs.take s ++ [(z0 + 1) % 8]) ++ pl.cs.drop (s + 1), pl.w, pl.sts⟩ := ⟨t1, u5, sa, xs, rfl, s8 _ _ ht1, s8 _ _ (s7 _ _ e5), np, h38, steps_same (s7.trans s8) h46⟩
  obtain ⟨w0, w1⟩ := mod_in (i := pl.w) (n := 24) (by decide)
  have g8 := (g6.same s7).same s8
  have h28 : H8 ca = some (.tup (ivs pl.cs)) := g8.kp.tup h2
  have p2 : PlanV q.p H8 (.ref t2) ⟨pl.cs, 1 + pl.w % 24, pl.sts⟩ := ⟨t2, ca, sa, xs, rfl, ht2, h28, np, h38, steps_same (s7.trans s8) h46⟩
  have A8 : Plans q.p H8 [.ref t1, .ref t2] := .cons p1 gc (.cons p2 (g40.width (by omega) (by omega)) .nil)
  have A9 : PlansL q.p fl H9 [.ref t1, .ref t2] := A8.toL hfl s9
  have nfl : H fl = none := Go.none g8 hP hfl
  have g9 := g8.same s9
  -- the third
  refine ⟨_, rfl, .inl ⟨rfl, _, SqL.of hf9⟩, ?_⟩
  refine ⟨_, rfl, _, rfl, szr, fun t3 H10 _ s10 ht3 => ⟨fl, _, _, rfl, rfl, s10 _ _ hf9, szl (by show 2 < 100000; decide), ?_⟩⟩
  have g10 := g9.same s10
  have p3 : PlanV q.p H8 (.ref t2) ⟨pl.cs, 1 + pl.w % 24, pl.sts⟩ := p2
  have nsf : sa ≠ fl := ne_of_none h38 hfl
  have l3 : PlanL q.p fl H10 (.ref t3) ⟨pl.cs, 24, pl.sts⟩ := ⟨t3, ca, sa, xs, rfl, ht3, g10.kp.tup h2, np, nsf, g10.kp.lst np h3, steps_kp g10.kp h4⟩
  have A11 : PlansL q.p fl (L2.upd H10 fl (.lst ([V.ref t1, V.ref t2] ++ [V.ref t3]))) ([V.ref t1, V.ref t2] ++ [V.ref t3]) := ((A9.same s10).app (PlansL.one l3 (g40.width (by decide) (by decide)))).upd (s10 _ _ hf9)
  have g11 : Go q (m + 1) H (L2.upd H10 fl (.lst ([V.ref t1, V.ref t2] ++ [V.ref t3]))) := Go.mut hP nfl g10
  have f11 : (L2.upd H10 fl (.lst ([V.ref t1, V.ref t2] ++ [V.ref t3]))) fl = some (.lst [V.ref t1, V.ref t2, V.ref t3]) := upd_same
  replace A11 : Plans q.p (L2.upd H10 fl (.lst ([V.ref t1, V.ref t2] ++ [V.ref t3]))) [V.ref t1, V.ref t2, V.ref t3] := A11.v
  generalize L2.upd H10 fl (.lst ([V.ref t1, V.ref t2] ++ [V.ref t3])) = H11 at A11 g11 f11
  have h211 := g11.kp.tup h2
  have h311 := g11.kp.lst np h3
  have h411 := steps_kp g11.kp h4
  -- a barrier behind, a barrier ahead
  refine ⟨_, rfl, ?_⟩
  refine ⟨_, rfl, _, rfl, _, rfl, szr, fun n1 H12 hn1 s12 hn1' => ⟨sa, n1, xs, _, rfl, rfl, s12 _ _ h311, hn1', sz (by show xs.length + 1 ≤ 100000; omega), fun r1 H13 hr1 s13 hr1' => ⟨szr, fun t4 H14 _ s14 ht4 => ?_⟩⟩⟩
  have S14 := s12.trans (s13.trans s14)
  refine ⟨_, rfl, _, rfl, szr, fun n2 H15 hn2 s15 hn2' => ⟨_, rfl, n2, sa, _, xs, rfl, rfl, hn2', s15 _ _ (S14 _ _ h311), sz (by show 1 + xs.length ≤ 100000; omega), fun r2 H16 hr2 s16 hr2' => ⟨szr, fun t5 H17 _ s17 ht5 => ⟨szr, fun ll H18 hll s18 hll' => ?_⟩⟩⟩⟩
  have S18 := S14.trans (s15.trans (s16.trans (s17.trans s18)))
  refine ⟨fl, ll, _, _, rfl, rfl, S18 _ _ f11, hll', sz (by show 3 + 2 ≤ 100000; decide), fun f2 H19 hf2 s19 hf2' => ?_⟩
  have S19 := S18.trans s19
  have sg : ∀ {H' : Hp}, Same H11 H' → H' sa = some (.lst xs) := fun s => s _ _ h311
  have ok1 : ∀ x ∈ pl.sts ++ [none], OkS pl.cs.length x := fun x hx => by
    rcases List.mem_append.mp hx with hx | hx
    · exact gd.st x hx
    · rw [List.mem_singleton.mp hx]
      exact True.intro
  have p4 : PlanV q.p H19 (.ref t4) ⟨pl.cs, pl.w, pl.sts ++ [none]⟩ := by
    have z : PlanV q.p H14 (.ref t4) ⟨pl.cs, pl.w, pl.sts ++ [none]⟩ := ⟨t4, ca, r1, _, rfl, ht4, S14 _ _ h211, ((g11.same s12).pen.free hr1).1, s14 _ _ hr1', paired_app (steps_same S14 h411) (.cons rfl .nil)⟩
    exact z.same (s15.trans (s16.trans (s17.trans (s18.trans s19))))
  have p5 : PlanV q.p H19 (.ref t5) ⟨pl.cs, pl.w, [none] ++ pl.sts⟩ := by
    have z : PlanV q.p H17 (.ref t5) ⟨pl.cs, pl.w, [none] ++ pl.sts⟩ := ⟨t5, ca, r2, _, rfl, ht5, (S14.trans (s15.trans (s16.trans s17))) _ _ h211, (((g11.same S14).same s15).pen.free hr2).1, s17 _ _ hr2', .cons rfl (steps_same (S14.trans (s15.trans (s16.trans s17))) h411)⟩
    exact z.same (s18.trans s19)
  have gd4 : Good 40 40 ⟨pl.cs, pl.w, pl.sts ++ [none]⟩ := gd.steps ok1 (by rw [List.length_append]; show pl.sts.length + 1 ≤ 40; omega) (by rw [tot_app, tot_one]; show tot pl.sts + 0 ≤ 40; omega)
  have gd5 : Good 40 40 ⟨pl.cs, pl.w, [none] ++ pl.sts⟩ := gd.steps (fun x hx => by
    rcases List.mem_append.mp hx with hx | hx
    · rw [List.mem_singleton.mp hx]
      exact True.intro
    · exact gd.st x hx) (by rw [List.length_append]; show 1 + pl.sts.length ≤ 40; omega) (by rw [tot_app, tot_one]; show 0 + tot pl.sts ≤ 40; omega)
  have A19 : Plans q.p H19 ([V.ref t1, V.ref t2, V.ref t3] ++ [V.ref t4, V.ref t5]) := (A11.same S19).app (.cons p4 gd4 (.cons p5 gd5 .nil))
  have g19 := g11.same S19
  have h219 := S19 _ _ h211
  have h319 := S19 _ _ h311
  have h419 := steps_same S19 h411
  -- without the first, turned round
  refine ⟨_, rfl, _, rfl, _, rfl, _, rfl, (1 : Int), rfl, sa, xs, rfl, h319, fun r3 H20 hr3 s20 hr3' => ⟨szr, fun t6 H21 _ s21 ht6 => ?_⟩⟩
  refine ⟨_, rfl, _, rfl, _, rfl, sa, xs, rfl, s21 _ _ (s20 _ _ h319), fun r4 H22 hr4 s22 hr4' => ⟨szr, fun t7 H23 _ s23 ht7 => ⟨szr, fun l2 H24 hl2 s24 hl2' => ?_⟩⟩⟩
  have S24 : Same H19 H24 := s20.trans (s21.trans (s22.trans (s23.trans s24)))
  refine ⟨f2, l2, _, _, rfl, rfl, S24 _ _ hf2', hl2', sz (by show 5 + 2 ≤ 100000; decide), fun f3 H25 hf3 s25 hf3' => ?_⟩
  have p6 : PlanV q.p H24 (.ref t6) ⟨pl.cs, pl.w, pl.sts.drop 1⟩ := by
    have z : PlanV q.p H21 (.ref t6) ⟨pl.cs, pl.w, pl.sts.drop 1⟩ := by
      refine ⟨t6, ca, r3, _, rfl, ht6, (s20.trans s21) _ _ h219, (g19.pen.free hr3).1, s21 _ _ hr3', ?_⟩
      rw [show cutV xs (some 1) none = xs.drop 1 from cut_from' (s := 1)]
      exact paired_drop 1 (steps_same (s20.trans s21) h419)
    exact z.same (s22.trans (s23.trans s24))
  have p7 : PlanV q.p H24 (.ref t7) ⟨pl.cs, pl.w, pl.sts.reverse⟩ := by
    have z : PlanV q.p H23 (.ref t7) ⟨pl.cs, pl.w, pl.sts.reverse⟩ := ⟨t7, ca, r4, _, rfl, ht7, (s20.trans (s21.trans (s22.trans s23))) _ _ h219, (((g19.same s20).same s21).pen.free hr4).1, s23 _ _ hr4', paired_rev (steps_same (s20.trans (s21.trans (s22.trans s23))) h419)⟩
    exact z.same s24
  have gd6 : Good 40 40 ⟨pl.cs, pl.w, pl.sts.drop 1⟩ := gd.steps (fun x hx => gd.st x (List.mem_of_mem_drop hx)) (by rw [List.length_drop]; omega) (by have := tot_drop_le pl.sts 1; omega)
  have gd7 : Good 40 40 ⟨pl.cs, pl.w, pl.sts.reverse⟩ := gd.steps (fun x hx => gd.st x (List.mem_reverse.mp hx)) (by rw [List.length_reverse]; omega) (by rw [tot_rev]; omega)
  have A24 : Plans q.p H24 (([V.ref t1, V.ref t2, V.ref t3] ++ [V.ref t4, V.ref t5]) ++ [V.ref t6, V.ref t7]) := (A19.same S24).app (.cons p6 gd6 (.cons p7 gd7 .nil))
  have A25 : PlansL q.p f3 H25 (([V.ref t1, V.ref t2, V.ref t3] ++ [V.ref t4, V.ref t5]) ++ [V.ref t6, V.ref t7]) := A24.toL hf3 s25
  have g24 := g19.same S24
  have nf3 : H f3 = none := Go.none g24 hP hf3
  have h324 := S24 _ _ h319
  have nsf3 : sa ≠ f3 := ne_of_none h324 hf3
  -- the steps, one by one
  refine ⟨_, rfl, sa, xs, rfl, .inl (s25 _ _ h324), _, rfl, ?_, ?_, ?_⟩
  · omega
  · omega
  refine for_range (lo := 0) (fun i σ' H' => ∃ us kv rv cv, σ' = [some (.ref q.p), some (.ref a), some (.ref ca), some (.int pl.w), some (.ref sa), some (.int (s : Int)), some (.ref u5), some (.ref f3), kv, rv, cv] ∧ Go q (m + 1) H H' ∧ H' f3 = some (.lst us) ∧ PlansL q.p f3 H' us ∧ us.length ≤ 7 + 2 * i) ?_ ?_ ?_
  · exact ⟨_, none, none, none, rfl, g24.same s25, hf3', A25, Nat.le_refl _⟩
  · rintro i σ' H' hi ⟨us, kv, rv, cv, rfl, gi, hf, ai, li⟩
    have hi' : i < xs.length := hi
    have hx : xs[i]? = some xs[i] := List.getElem?_eq_getElem hi'
    have h3i := gi.kp.lst np h3
    have h4i := steps_kp gi.kp h4
    obtain ⟨st, hs1, hs2⟩ := paired_get h4i hx
    refine ⟨_, rfl, _, rfl, sa, _, _, _, rfl, rfl, .inl h3i, at_of (Int.zero_add _) hx, ?_⟩
    cases st with
    | none =>
      have e : xs[i] = V.non := hs2
      rw [e]
      exact ⟨_, rfl, rfl, _, rfl, us, _, _, _, rfl, gi, hf, ai, by omega⟩
    | some fw =>
      obtain ⟨f, ws⟩ := fw
      obtain ⟨t, b, e, ht, hb⟩ := hs2
      rw [e]
      obtain ⟨o1, o2, o3, o4⟩ := gd.st _ (List.mem_of_getElem? hs1)
      have wp : 0 < ws.length := List.length_pos_iff.mpr o2
      have i40 : i < pl.sts.length := by omega
      obtain ⟨z, hz⟩ := at_last o2
      refine ⟨_, rfl, rfl, _, rfl, ?_⟩
      -- another last worth
      refine ⟨_, rfl, t, _, _, _, rfl, rfl, .inr ht, rfl, _, rfl, t, _, _, _, rfl, rfl, .inr ht, rfl, _, rfl, (-1 : Int), rfl, b, _, rfl, hb, fun u1 K1 j1 hu1 => ?_⟩
      refine ⟨_, rfl, t, _, _, _, rfl, rfl, .inr (j1 _ _ ht), rfl, _, rfl, b, _, _, _, rfl, rfl, .inr (j1 _ _ hb), hz, _, _, rfl, rfl, .inl ⟨_, rfl, _, _, rfl, rfl, (by decide : (0 : Int) < 8), szr, fun u2 K2 _ j2 hu2 => ?_⟩⟩
      refine ⟨u1, u2, _, _, rfl, rfl, j2 _ _ hu1, hu2, sz (by rw [cut_last, ivs_len, List.length_take]; show _ + 1 ≤ 100000; omega), fun u3 K3 j3 hu3 => ⟨szr, fun ch K4 _ j4 hch => ?_⟩⟩
      have J4 := j1.trans (j2.trans (j3.trans j4))
      have hc3 : K4 u3 = some (.tup (ivs (ws.take (ws.length - 1) ++ [(z + 1) % 8]))) := by
        refine j4 _ _ ?_
        rw [hu3, cut_last]
        unfold ivs
        rw [List.map_append]
        rfl
      obtain ⟨b0, b1⟩ := mod_in (i := z + 1) (n := 8) (by decide)
      have wl : (ws.take (ws.length - 1) ++ [(z + 1) % 8]).length = ws.length := by
        rw [List.length_append, List.length_take]
        show min (ws.length - 1) ws.length + 1 = ws.length
        omega
      have oA : OkS pl.cs.length (some (f, ws.take (ws.length - 1) ++ [(z + 1) % 8])) := by
        refine ⟨o1, by simp, by rw [wl]; exact o3, fun y hy => ?_⟩
        rcases List.mem_append.mp hy with hy | hy
        · exact o4 y (List.mem_of_mem_take hy)
        · rw [List.mem_singleton.mp hy]
          exact ⟨b0, b1⟩
      have gi4 := gi.same J4
      have h3k := J4 _ _ h3i
      refine ⟨_, rfl, .inl ⟨rfl, _, SqL.of (J4 _ _ hf)⟩, ?_⟩
      refine ⟨_, rfl, _, rfl, _, rfl, _, rfl, _, rfl, sa, xs, rfl, h3k, fun r1 K5 hr1 j5 hr1' => ⟨_, rfl, szr, fun n1 K6 hn1 j6 hn1' => ?_⟩⟩
      refine ⟨r1, n1, _, _, rfl, rfl, j6 _ _ hr1', hn1', sz (by rw [cut_to0 (Nat.le_of_lt hi'), List.length_take]; show _ + 1 ≤ 100000; omega), fun r2 K7 hr2 j7 hr2' => ?_⟩
      refine ⟨_, rfl, _, rfl, _, _, rfl, rfl, _, rfl, sa, xs, rfl, j7 _ _ (j6 _ _ (j5 _ _ h3k)), fun r3 K8 hr3 j8 hr3' => ?_⟩
      refine ⟨r2, r3, _, _, rfl, rfl, j8 _ _ hr2', hr3', sz (by rw [cut_to0 (Nat.le_of_lt hi'), cut_from0, List.length_append, List.length_take, List.length_drop]; show min i xs.length + 1 + _ ≤ 100000; omega), fun r4 K9 hr4 j9 hr4' => ⟨szr, fun tt K10 _ j10 htt => ?_⟩⟩
      have J9 : Same K4 K9 := j5.trans (j6.trans (j7.trans (j8.trans j9)))
      have J10 := J4.trans (J9.trans j10)
      have hf10 := J10 _ _ hf
      refine ⟨f3, _, _, rfl, rfl, hf10, szl (by omega), ?_⟩
      have h4i' := steps_kp gi.kp h4
      obtain ⟨w1, w2, w3⟩ := steps_at (b := some (f, ws.take (ws.length - 1) ++ [(z + 1) % 8])) hs1 wl oA (fun x hx => gd.st x hx)
      have LA : PlanL q.p f3 K10 (.ref tt) ⟨pl.cs, pl.w, (pl.sts.take i ++ [some (f, ws.take (ws.length - 1) ++ [(z + 1) % 8])]) ++ pl.sts.drop (i + 1)⟩ := by
        refine ⟨tt, ca, r4, _, rfl, htt, J10 _ _ (gi.kp.tup h2), ((gi.same (J4.trans (j5.trans (j6.trans (j7.trans j8))))).pen.free hr4).1, fun y => ?_, j10 _ _ hr4', ?_⟩
        · rw [y, (J4.trans (j5.trans (j6.trans (j7.trans j8)))) _ _ hf] at hr4
          cases hr4
        · rw [cut_to0 (Nat.le_of_lt hi'), cut_from0]
          have h10 := steps_same J10 h4i'
          refine paired_app (paired_app (paired_take i h10) (.cons ⟨ch, u3, rfl, (J9.trans j10) _ _ hch, (J9.trans j10) _ _ hc3⟩ .nil)) (paired_drop (i + 1) h10)
      have AA := ((ai.same J10).app (PlansL.one LA (gd.steps w1 (by rw [w2]; omega) (by rw [w3]; omega)))).upd (zs := us ++ [V.ref tt]) hf10
      have gA := Go.mut (o := .lst (us ++ [V.ref tt])) hP nf3 (gi.same J10)
      have kA := kp_upd (zs := us ++ [V.ref tt]) hf10
      have fA : (L2.upd K10 f3 (.lst (us ++ [V.ref tt]))) f3 = some (.lst (us ++ [V.ref tt])) := upd_same
      have tA := kA.tup (J10 _ _ ht)
      have bA := kA.tup (J10 _ _ hb)
      generalize L2.upd K10 f3 (.lst (us ++ [V.ref tt])) = K11 at AA gA kA fA tA bA
      refine ⟨_, rfl, t, _, _, _, rfl, rfl, .inr tA, rfl, _, _, rfl, rfl, _, rfl, ite2 (fun fp => ?_) (fun _ => ?_)⟩
      rotate_left
      · exact ⟨_, _, _, _, rfl, gA, fA, AA, by rw [List.length_append]; show us.length + 1 ≤ _; omega⟩
      -- another first cell
      have f0 : 0 < f := of_decide_eq_true fp
      have oB : OkS pl.cs.length (some (f - 1, ws)) := ⟨by omega, o2, by omega, o4⟩
      refine ⟨_, rfl, t, _, _, _, rfl, rfl, .inr tA, rfl, _, _, rfl, rfl, _, rfl, t, _, _, _, rfl, rfl, .inr tA, rfl, szr, fun c2 K12 _ i1 hc2 => ?_⟩
      have g12 := gA.same i1
      have h312 := g12.kp.lst np h3
      refine ⟨_, rfl, .inl ⟨rfl, _, SqL.of (i1 _ _ fA)⟩, ?_⟩
      refine ⟨_, rfl, _, rfl, _, rfl, _, rfl, _, rfl, sa, xs, rfl, h312, fun m1 K13 hm1 i2 hm1' => ⟨_, rfl, szr, fun n2 K14 hn2 i3 hn2' => ?_⟩⟩
      refine ⟨m1, n2, _, _, rfl, rfl, i3 _ _ hm1', hn2', sz (by rw [cut_to0 (Nat.le_of_lt hi'), List.length_take]; show _ + 1 ≤ 100000; omega), fun m2 K15 hm2 i4 hm2' => ?_⟩
      refine ⟨_, rfl, _, rfl, _, _, rfl, rfl, _, rfl, sa, xs, rfl, i4 _ _ (i3 _ _ (i2 _ _ h312)), fun m3 K16 hm3 i5 hm3' => ?_⟩
      refine ⟨m2, m3, _, _, rfl, rfl, i5 _ _ hm2', hm3', sz (by rw [cut_to0 (Nat.le_of_lt hi'), cut_from0, List.length_append, List.length_take, List.length_drop]; show min i xs.length + 1 + _ ≤ 100000; omega), fun m4 K17 hm4 i6 hm4' => ⟨szr, fun t2 K18 _ i7 ht2 => ?_⟩⟩
      have I6 : Same K12 K16 := i2.trans (i3.trans (i4.trans i5))
      have I7 : Same K12 K18 := I6.trans (i6.trans i7)
      have hf18 := I7 _ _ (i1 _ _ fA)
      refine ⟨f3, _, _, rfl, rfl, hf18, szl (by rw [List.length_append]; show us.length + 1 < 100000; omega), ?_⟩
      obtain ⟨x1, x2, x3⟩ := steps_at (b := some (f - 1, ws)) hs1 rfl oB (fun x hx => gd.st x hx)
      have LB : PlanL q.p f3 K18 (.ref t2) ⟨pl.cs, pl.w, (pl.sts.take i ++ [some (f - 1, ws)]) ++ pl.sts.drop (i + 1)⟩ := by
        refine ⟨t2, ca, m4, _, rfl, ht2, I7 _ _ (g12.kp.tup h2), ((g12.same I6).pen.free hm4).1, fun y => ?_, i7 _ _ hm4', ?_⟩
        · rw [y, I6 _ _ (i1 _ _ fA)] at hm4
          cases hm4
        · rw [cut_to0 (Nat.le_of_lt hi'), cut_from0]
          have h18 := steps_same I7 (steps_kp g12.kp h4)
          refine paired_app (paired_app (paired_take i h18) (.cons ⟨c2, b, rfl, I7 _ _ hc2, I7 _ _ (i1 _ _ bA)⟩ .nil)) (paired_drop (i + 1) h18)
      have AB := (((AA.same i1).same I7).app (PlansL.one LB (gd.steps x1 (by rw [x2]; omega) (by rw [x3]; omega)))).upd (zs := (us ++ [V.ref tt]) ++ [V.ref t2]) hf18
      exact ⟨_, _, _, _, rfl, Go.mut hP nf3 (g12.same I7), upd_same, AB, by rw [List.length_append, List.length_append]; show us.length + 1 + 1 ≤ _; omega⟩
  · rintro σ' H' ⟨us, kv, rv, cv, rfl, gi, hf, ai, li⟩
    -- a cell more
    refine ⟨_, rfl, _, rfl, szr, fun n1 K1 _ j1 hn1 => ⟨ca, n1, _, _, rfl, rfl, j1 _ _ (gi.kp.tup h2), hn1, sz (by rw [ivs_len]; show _ + 1 ≤ 100000; omega), fun cc K2 j2 hcc => ⟨_, rfl, _, rfl, szr, fun tt K3 _ j3 htt => ⟨szr, fun ll K4 hll j4 hll' => ?_⟩⟩⟩⟩
    have J3 := j1.trans (j2.trans j3)
    have J4 := J3.trans j4
    refine ⟨f3, ll, _, _, rfl, rfl, J4 _ _ hf, hll', sz (by show us.length + 1 ≤ 100000; omega), fun l4 K5 hl4 j5 hl4' => ?_⟩
    have J5 := J4.trans j5
    have hcc3 : K3 cc = some (.tup (ivs (pl.cs ++ [0]))) := by
      refine j3 _ _ ?_
      rw [hcc]
      unfold ivs
      rw [List.map_append]
      rfl
    have pp : PlanV q.p K3 (.ref tt) ⟨pl.cs ++ [0], pl.w, pl.sts⟩ := ⟨tt, cc, sa, xs, rfl, htt, hcc3, np, J3 _ _ (gi.kp.lst np h3), steps_same J3 (steps_kp gi.kp h4)⟩
    have gp : Good 40 40 ⟨pl.cs ++ [0], pl.w, pl.sts⟩ := g40.cells (by rw [List.length_append]; omega) (by rw [List.length_append]; show pl.cs.length + 1 ≤ 24; omega) fun y hy => by
      rcases List.mem_append.mp hy with hy | hy
      · exact gd.cb y hy
      · rw [List.mem_singleton.mp hy]
        decide
    refine k l4 K5 (us ++ [V.ref tt]) (gi.same J5) ((gi.same J4).pen.free hl4).1 hl4' ((ai.v.same J5).app (.cons (pp.same (j4.trans j5)) gp .nil)) ?_
    rw [List.length_append]
    show us.length + 1 ≤ 100
    have : us.length ≤ 7 + 2 * xs.length := li
    omega
end
end Af

set_option Elab.async false
set_option linter.all false
set_option maxRecDepth 100000
namespace Af
open PySem L2
abbrev s_l_split : Stmt := top 27
abbrev N_l_split : List Str := ["_law_index", "_law_step_here", "_law_span_here", "_law_first", "_law_worths_here", "_law_found", "_law_some", "_law_k"]
theorem sc_l_split : FnScope N_l_split ["_law_index", "_law_step_here", "_law_span_here"] (defScope s_l_split) := ⟨rfl, rfl, rfl, by decide +kernel, rfl, by decide +kernel, by decide +kernel⟩

abbrev s_l_parts : Stmt := top 28
abbrev N_l_parts : List Str := ["_law_plan_here", "_law_found", "_law_index"]
theorem sc_l_parts : FnScope N_l_parts ["_law_plan_here"] (defScope s_l_parts) := ⟨rfl, rfl, rfl, by decide +kernel, rfl, by decide +kernel, by decide +kernel⟩

abbrev s_l_write : Stmt := top 29
abbrev N_l_write : List Str := ["_law_pen_here", "_law_many", "_law_kinds", "_law_longest_row", "_law_first", "_law_more", "_law_k"]
theorem sc_l_write : FnScope N_l_write ["_law_pen_here", "_law_many", "_law_kinds", "_law_longest_row"] (defScope s_l_write) := ⟨rfl, rfl, rfl, by decide +kernel, rfl, by decide +kernel, by decide +kernel⟩

def sp_split : Sp := fun vs H Q _ => ∃ (i f sp : Int) (a b : Addr) (ws : List Int), vs = [.int i, .ref a, .int sp] ∧ H a = some (.tup [.int f, .ref b]) ∧ H b = some (.tup (ivs ws)) ∧ 0 < sp ∧ ws.length ≤ 100 ∧
  ∀ l H' xs, Same H H' → H l = none → H' l = some (.lst xs) → xs.length ≤ ws.length + 1 → Q (.ref l) H'
/-- a plan's tuple with its list of steps told -/
def sp_parts : Sp := fun vs H Q _ => ∃ (a ca sa : Addr) (sp : Int) (xs : List V) (sts : List Stp), vs = [.ref a] ∧ H a = some (.tup [.ref ca, .int sp, .ref sa]) ∧ H sa = some (.lst xs) ∧ Paired (StepV H) xs sts ∧ 0 < sp ∧ xs.length ≤ 100 ∧
  (∀ f ws, some (f, ws) ∈ sts → ws.length ≤ 100) ∧ ∀ l H' ys, Same H H' → H l = none → H' l = some (.lst ys) → Q (.ref l) H'
def sp_write : Sp := fun vs H Q _ => ∃ (q : Pn) (m : Nat) (many kinds lo : Int), vs = [.ref q.p, .int many, .int kinds, .int lo] ∧ Pen q m H ∧ m + 30 < 1000000000000 ∧ 1 ≤ many ∧ many ≤ 24 ∧ 1 ≤ kinds ∧ kinds ≤ 8 ∧ 1 ≤ lo ∧ lo ≤ 24 ∧
  ∀ v H' f ws, Go q (m + 30) H H' → StepV H' v (some (f, ws)) → 0 ≤ f → ws ≠ [] → (ws.length : Int) ≤ lo → f + (ws.length : Int) ≤ many → (∀ z ∈ ws, 0 ≤ z ∧ z < kinds) → Q v H'
section
variable {P : Program} {w : World} {K : PySem.W.Frag} {mg : Str → Option Value} {base : Heap}
theorem ok_split {f : Addr} {fd : FuncData} (F : Fun K "_law_split" "_law_split" s_l_split f fd) (T : Txt mg) : FnOk P w K mg base CX0 1 f fd ["_law_index", "_law_step_here", "_law_span_here"] sp_split := by
  refine F.ok sc_l_split (fun vs H Q E h => ?_) (fun cdv A outer s H vs Q E hr h => ?_)
  · obtain ⟨_, _, _, _, _, _, rfl, _⟩ := h
    rfl
  obtain ⟨ix, f, sp, a, b, ws, rfl, ha, hb, hsp, hws, k⟩ := h
  refine ⟨_, (pss_cons (ps_asg (pv 1) (pg_tup rfl (pgs_cons (pg_name (i := 3) sc_l_split.nd rfl (Or.inl rfl)) (pgs_cons (pg_name (i := 4) sc_l_split.nd rfl (Or.inl rfl)) pgs_nil))))
    (pss_cons (ps_par (i := 5) (j := 6) rfl sc_l_split.nd rfl rfl (by decide) rfl rfl (pa_cons (pe_lst' pa_nil) (pa_cons (pe_lst' pa_nil) pa_nil)) (by rfl))
    (pss_cons (ps_for PassesOwn.never rfl (pi_range1 rfl T.range (pa_cons (pe_callB call_len' (by rfl) T.len (by decide +kernel) (pa_cons (pv 4) pa_nil)) pa_nil)) (pg_name (i := 7) sc_l_split.nd rfl (Or.inl rfl))
      (pss_cons (ps_cut (ps_if (PW.pt (pw_and (pt_cmpR (op_neNil hr.units) (pv 6) (pe_lst' pa_nil) (nomark _)) (pw_and1 (pt_cmpR op_eq (pe_op op_mod (pe_callTy call_int1 (by rfl) T.int (by decide +kernel) (pa_cons (pe_op op_add (pv 3) (pv 7)) pa_nil)) (pv 2)) pe_int (nomark _)))))
      (pss_cons (ps_expr (pe_bm PySem.F.plainAttrs_list PySem.F.slot_list_append PySem.F.type_list_append mt_append (pv 5) (pa_cons (pe_tup' (pa_cons (pv 0) (pa_cons (pe_op op_sub (pe_op op_add (pv 3) (pv 7)) (pe_callB call_len' (by rfl) T.len (by decide +kernel) (pa_cons (pv 6) pa_nil))) (pa_cons (pe_callTy call_tuple' (by rfl) T.tuple (by decide +kernel) (pa_cons (pv 6) pa_nil)) pa_nil)))) pa_nil)))
    (pss_one (ps_set (i := 6) sc_l_split.nd rfl (Or.inl rfl) (pe_lst' pa_nil))))
      pss_nil))
    (pss_one (ps_expr (pe_bm PySem.F.plainAttrs_list PySem.F.slot_list_append PySem.F.type_list_append mt_append (pv 6) (pa_cons (pe_ix ix_seq' (pv 4) (pv 7) (fun _ _ => rfl)) pa_nil))))))
    (pss_one (ps_ret (pe_op op_cat' (pv 5) (pe_lst' (pa_cons (pe_tup' (pa_cons (pv 0) (pa_cons (pe_op op_sub (pe_op op_add (pv 3) (pe_callB call_len' (by rfl) T.len (by decide +kernel) (pa_cons (pv 4) pa_nil))) (pe_callB call_len' (by rfl) T.len (by decide +kernel) (pa_cons (pv 6) pa_nil))) (pa_cons (pe_callTy call_tuple' (by rfl) T.tuple (by decide +kernel) (pa_cons (pv 6) pa_nil)) pa_nil)))) pa_nil)))))))), ?_⟩
  refine ⟨_, rfl, a, _, rfl, SqT.of ha, rfl, _, _, rfl, _, _, rfl, rfl, ?_⟩
  refine ⟨szr, fun fl H1 hfl s1 h1 => ⟨szr, fun sl H2 hsl s2 h2 => ⟨_, _, rfl, ?_⟩⟩⟩
  have b2 := s2 _ _ (s1 _ _ hb)
  refine ⟨_, rfl, b, _, rfl, .inr b2, _, rfl, ?_, ?_, ?_⟩
  · omega
  · rw [ivs_len]
    omega
  refine for_range (lo := 0) (fun i σ' H' => ∃ sl xs ss kv, σ' = [some (.int ix), some (.ref a), some (.int sp), some (.int f), some (.ref b), some (.ref fl), some (.ref sl), kv] ∧ Same H H' ∧ H sl = none ∧ sl ≠ fl ∧ H' fl = some (.lst xs) ∧ H' sl = some (.lst (ivs ss)) ∧ xs.length ≤ i ∧ ss.length ≤ i) ?_ ?_ ?_
  · refine ⟨sl, [], [], none, rfl, s1.trans s2, s1.free hsl, nofree h1 hsl, s2 _ _ h1, h2, Nat.le_refl _, Nat.le_refl _⟩
  · rintro i σ' H' hi ⟨sl, xs, ss, kv, rfl, s3, hsl, ns, h3, h4, l1, l2⟩
    have hi' : i < ws.length := by
      have e : ((ivs ws).length : Int).toNat = ws.length := by rw [ivs_len]; omega
      omega
    have b3 := s3 _ _ hb
    refine ⟨fun σ' H' => ∃ sl xs ss, σ' = [some (.int ix), some (.ref a), some (.int sp), some (.int f), some (.ref b), some (.ref fl), some (.ref sl), some (.int (0 + (i : Int)))] ∧ Same H H' ∧ H sl = none ∧ sl ≠ fl ∧ H' fl = some (.lst xs) ∧ H' sl = some (.lst (ivs ss)) ∧ xs.length ≤ i + 1 ∧ ss.length ≤ i, ?_, ?_⟩
    · refine ⟨_, rfl, szr, fun e H5 he s5 h5 => ?_⟩
      have k3 := s5 _ _ h3
      have k4 := s5 _ _ h4
      have s6 := s3.trans s5
      have no : ∃ sl' xs' ss', [some (V.int ix), some (.ref a), some (.int sp), some (.int f), some (.ref b), some (.ref fl), some (.ref sl), some (.int (0 + (i : Int)))] = [some (.int ix), some (.ref a), some (.int sp), some (.int f), some (.ref b), some (.ref fl), some (.ref sl'), some (.int (0 + (i : Int)))] ∧ Same H H5 ∧ H sl' = none ∧ sl' ≠ fl ∧ H5 fl = some (.lst xs') ∧ H5 sl' = some (.lst (ivs ss')) ∧ xs'.length ≤ i + 1 ∧ ss'.length ≤ i :=
        ⟨sl, xs, ss, rfl, s6, hsl, ns, k3, k4, by omega, l2⟩
      refine ⟨sl, e, ss, rfl, rfl, k4, h5, _, rfl, ite2 (fun _ => ?_) (fun _ => iteF no)⟩
      refine ⟨_, rfl, _, rfl, _, _, rfl, rfl, .inl ⟨_, rfl, _, rfl, _, _, rfl, rfl, hsp, rfl, _, rfl, ite2 (fun _ => ?_) (fun _ => no)⟩⟩
      refine ⟨_, rfl, .inl ⟨rfl, _, SqL.of k3⟩, ?_⟩
      refine ⟨_, rfl, _, rfl, _, rfl, _, _, rfl, rfl, _, rfl, sl, _, rfl, .inl k4, _, _, rfl, rfl, _, rfl, sl, _, rfl, .inl k4, fun tp H7 s7 h7 => ?_⟩
      refine ⟨szr, fun t H8 ht s8 h8 => ?_⟩
      have k5 := s8 _ _ (s7 _ _ k3)
      refine ⟨fl, xs, _, rfl, rfl, k5, szl (by omega), ?_⟩
      have s9 : Same H (upd H8 fl (.lst (xs ++ [V.ref t]))) := same_mut (s6.trans (s7.trans s8)) hfl
      refine ⟨szr, fun nl H9 hnl s10 h10 => ?_⟩
      refine ⟨nl, xs ++ [V.ref t], [], rfl, s9.trans s10, s9.free hnl, nofree upd_same hnl, s10 _ _ upd_same, h10, by rw [List.length_append]; show xs.length + 1 ≤ i + 1; omega, Nat.zero_le _⟩
    · rintro σ' H' ⟨sl, xs, ss, rfl, s3, hsl, ns, h3, h4, l1, l2⟩
      have b3 := s3 _ _ hb
      refine ⟨_, rfl, .inl ⟨rfl, _, SqL.of h4⟩, ?_⟩
      refine ⟨_, rfl, _, rfl, b, _, _, _, rfl, rfl, .inr b3, at_of (Int.zero_add _) (ivs_get hi'), ?_⟩
      refine ⟨sl, ivs ss, _, rfl, rfl, h4, szl (by rw [ivs_len]; omega), ?_⟩
      refine ⟨sl, xs, ss ++ [ws[i]], _, rfl, same_mut s3 hsl, hsl, ns, by rw [upd_ne ns.symm]; exact h3, ?_, l1, by rw [List.length_append]; show ss.length + 1 ≤ i + 1; omega⟩
      rw [upd_same]
      unfold ivs
      rw [List.map_append]
      rfl
  · rintro σ' H' ⟨sl, xs, ss, kv, rfl, s3, hsl, ns, h3, h4, l1, l2⟩
    have e : ((ivs ws).length : Int).toNat = ws.length := by rw [ivs_len]; omega
    rw [e] at l1 l2
    have b3 := s3 _ _ hb
    refine ⟨_, rfl, _, rfl, _, rfl, _, rfl, b, _, rfl, .inr b3, _, _, rfl, rfl, _, rfl, sl, _, rfl, .inl h4, _, _, rfl, rfl, _, rfl, sl, _, rfl, .inl h4, fun tp H7 s7 h7 => ?_⟩
    refine ⟨szr, fun t H8 ht s8 h8 => ⟨szr, fun nl H9 hnl s9 h9 => ?_⟩⟩
    have s10 := s7.trans (s8.trans s9)
    refine ⟨fl, nl, _, _, rfl, rfl, s10 _ _ h3, h9, sz (by show xs.length + 1 ≤ 100000; omega), fun r H10 hr2 s11 h11 => ?_⟩
    exact k r H10 _ (s3.trans (s10.trans s11)) ((s3.trans s10).free hr2) h11 (by rw [List.length_append]; show xs.length + 1 ≤ ws.length + 1; omega)
end
end Af

set_option Elab.async false
set_option linter.all false
set_option maxRecDepth 100000
namespace Af
open PySem L2
section
variable {P : Program} {w : World} {K : PySem.W.Frag} {mg : Str → Option Value} {base : Heap}
theorem ok_parts {f : Addr} {fd : FuncData} (F : Fun K "_law_parts" "_law_parts" s_l_parts f fd) (T : Txt mg) (c_l_split : Cal P w K mg base 1 "_law_split" ["_law_index", "_law_step_here", "_law_span_here"] sp_split) : FnOk P w K mg base CX0 2 f fd ["_law_plan_here"] sp_parts := by
  refine F.ok sc_l_parts (fun vs H Q E h => ?_) (fun cdv A outer s H vs Q E hr h => ?_)
  · obtain ⟨_, _, _, _, _, _, rfl, _⟩ := h
    rfl
  obtain ⟨a, ca, sa, sp, xs, sts, rfl, ha, hsa, hst, hsp, hx, hw, k⟩ := h
  refine ⟨_, (pss_cons (ps_set (i := 1) sc_l_parts.nd rfl (Or.inl rfl) (pe_lst' pa_nil))
    (pss_cons (ps_for PassesOwn.never rfl (pi_range1 rfl T.range (pa_cons (pe_callB call_len' (by rfl) T.len (by decide +kernel) (pa_cons (pe_ix ix_seq' (pv 0) pe_int (fun _ _ => rfl)) pa_nil)) pa_nil)) (pg_name (i := 2) sc_l_parts.nd rfl (Or.inl rfl))
      (pss_one (ps_if (pt_cmpR op_notN (pe_ix ix_seq' (pe_ix ix_seq' (pv 0) pe_int (fun _ _ => rfl)) (pv 2) (fun _ _ => rfl)) pe_non (nomark _))
      (pss_one (ps_set (i := 1) sc_l_parts.nd rfl (Or.inl rfl) (pe_op op_cat' (pv 1) (pe_cal c_l_split hr (pa_cons (pv 2) (pa_cons (pe_ix ix_seq' (pe_ix ix_seq' (pv 0) pe_int (fun _ _ => rfl)) (pv 2) (fun _ _ => rfl)) (pa_cons (pe_ix ix_seq' (pv 0) pe_int (fun _ _ => rfl)) pa_nil)))))))
      pss_nil)))
    (pss_one (ps_ret (pv 1))))), ?_⟩
  refine ⟨szr, fun fl H1 hfl s1 h1 => ?_⟩
  refine ⟨_, rfl, a, _, _, _, rfl, rfl, .inr (s1 _ _ ha), rfl, sa, _, rfl, .inl (s1 _ _ hsa), _, rfl, ?_, ?_, ?_⟩
  · omega
  · omega
  refine for_range (lo := 0) (fun i σ' H' => ∃ fl ys kv, σ' = [some (.ref a), some (.ref fl), kv] ∧ Same H H' ∧ H fl = none ∧ H' fl = some (.lst ys) ∧ ys.length ≤ i * 101) ?_ ?_ ?_
  · exact ⟨fl, [], none, rfl, s1, hfl, h1, Nat.zero_le _⟩
  · rintro i σ' H' hi ⟨fl, ys, kv, rfl, s2, hfl, h2, l1⟩
    have hi' : i < xs.length := by omega
    have hx2 : xs[i]? = some xs[i] := List.getElem?_eq_getElem hi'
    obtain ⟨st, hs1, hs2⟩ := paired_get hst hx2
    refine ⟨_, rfl, a, _, _, _, rfl, rfl, .inr (s2 _ _ ha), rfl, _, rfl, sa, _, _, _, rfl, rfl, .inl (s2 _ _ hsa), at_of (Int.zero_add _) hx2, rfl, _, rfl, ?_⟩
    cases st with
    | none =>
      have e : xs[i] = V.non := hs2
      rw [e]
      exact ⟨fl, ys, _, rfl, s2, hfl, h2, by omega⟩
    | some fw =>
      obtain ⟨f, ws⟩ := fw
      obtain ⟨t, b, e, h3, h4⟩ := hs2
      rw [e]
      have hws := hw f ws (List.mem_of_getElem? hs1)
      refine ⟨_, rfl, _, rfl, _, rfl, a, _, _, _, rfl, rfl, .inr (s2 _ _ ha), rfl, _, rfl, sa, _, _, _, rfl, rfl, .inl (s2 _ _ hsa), at_of (Int.zero_add _) (hx2.trans (congrArg some e)), ?_⟩
      refine ⟨_, rfl, a, _, _, _, rfl, rfl, .inr (s2 _ _ ha), rfl, _, f, sp, t, b, ws, rfl, s2 _ _ h3, s2 _ _ h4, hsp, hws, fun l H3 zs s3 hl h5 h6 => ?_⟩
      refine ⟨fl, l, _, _, rfl, rfl, s3 _ _ h2, h5, sz (by omega), fun r H4 hr4 s4 h7 => ?_⟩
      refine ⟨r, ys ++ zs, _, rfl, s2.trans (s3.trans s4), s2.free (s3.free hr4), h7, by rw [List.length_append]; omega⟩
  · rintro σ' H' ⟨fl, ys, kv, rfl, s2, hfl, h2, l1⟩
    exact ⟨_, rfl, k fl H' ys s2 hfl h2⟩
theorem ok_write {f : Addr} {fd : FuncData} (F : Fun K "_law_write" "_law_write" s_l_write f fd) (T : Txt mg) (c_l_draw : Cal P w K mg base 2 "_law_draw" ["_law_pen_here", "_law_under"] sp_draw) :
    FnOk P w K mg base CX0 3 f fd ["_law_pen_here", "_law_many", "_law_kinds", "_law_longest_row"] sp_write := by
  refine F.ok sc_l_write (fun vs H Q E h => ?_) (fun cdv A outer s H vs Q E hr h => ?_)
  · obtain ⟨_, _, _, _, _, rfl, _⟩ := h
    rfl
  obtain ⟨q, m, many, kinds, lo, rfl, hP, hm, m1, m2, k1, k2, l1, l2, k⟩ := h
  refine ⟨_, (pss_cons (ps_set (i := 4) sc_l_write.nd rfl (Or.inl rfl) (pe_cal c_l_draw hr (pa_cons (pv 0) (pa_cons (pv 1) pa_nil))))
    (pss_cons (ps_set (i := 5) sc_l_write.nd rfl (Or.inl rfl) (pe_callB (call_min2 rfl) (by rfl) T.min (by decide +kernel) (pa_cons (pv 3) (pa_cons (pe_op op_sub (pv 1) (pv 4)) pa_nil))))
    (pss_one (ps_ret (pe_tup' (pa_cons (pv 4) (pa_cons (pe_callTy call_tuple' (by rfl) T.tuple (by decide +kernel) (pa_cons (pe_lc (own := [("_law_k", 6)]) (g := (gName 6)) (tt := tYes) rfl sc_l_write.nd (pi_range1 rfl T.range (pa_cons (pe_op op_add pe_int (pe_cal c_l_draw hr (pa_cons (pv 0) (pa_cons (pv 5) pa_nil)))) pa_nil)) (blkOk_by (own := [("_law_k", 6)]) (N := N_l_write) (sc := defScope s_l_write) (by decide +kernel)) (fun _ _ _ _ _ => pg_name (i := 6) sc_l_write.nd rfl (Or.inl rfl)) (fun _ _ _ _ _ => pts_nil) (fun _ _ _ _ _ => (pe_cal c_l_draw hr (pa_cons (pv 0) (pa_cons (pv 2) pa_nil))))) pa_nil)) pa_nil))))))), ?_⟩
  refine ⟨_, rfl, _, rfl, q, m, many, rfl, by omega, by omega, hP, by omega, fun d H1 d0 d1 g1 => ?_⟩
  refine ⟨_, rfl, _, rfl, _, rfl, _, _, rfl, rfl, _, _, rfl, ?_⟩
  have hmore : ∃ more : Int, (if many - d < lo then many - d else lo) = more ∧ 1 ≤ more ∧ more ≤ lo ∧ d + more ≤ many := by
    by_cases c : many - d < lo
    · rw [if_pos c]
      exact ⟨_, rfl, by omega, by omega, by omega⟩
    · rw [if_neg c]
      exact ⟨_, rfl, by omega, by omega, by omega⟩
  obtain ⟨more, e, r1, r2, r3⟩ := hmore
  rw [e]
  refine ⟨_, rfl, _, rfl, _, rfl, q, m + 1, more, rfl, by omega, by omega, g1.pen, by omega, fun d2 H2 d20 d21 g2 => ⟨_, _, rfl, rfl, _, rfl, ?_, ?_, ?_⟩⟩
  · omega
  · omega
  refine lc_draws (q := q) (m := m + 1 + 1) (u := kinds) g2.pen ?_ ?_ (fun x H3 Q m3 p3 h3 kk => ?_) (fun D H3 ns hD g3 h3 hl hb => ?_)
  · omega
  · exact fun x => rfl
  · exact ⟨_, rfl, _, rfl, q, m3, kinds, rfl, by omega, by omega, p3, by omega, kk⟩
  · refine ⟨D, _, rfl, .inl h3, fun t H4 s4 h4 => ⟨szr, fun r H5 hr5 s5 h5 => ?_⟩⟩
    have gg := g1.trans (g2.trans g3)
    have hlen : ns.length = (1 + d2).toNat := hl
    refine k _ H5 d ns (((gg.same s4).same s5).mono (by omega)) ⟨r, t, rfl, h5, s5 _ _ h4⟩ d0 ?_ (by omega) (by omega) hb
    intro z
    rw [z] at hlen
    have : (0 : Nat) = (1 + d2).toNat := hlen
    omega
end
end Af

set_option Elab.async false
set_option linter.all false
set_option maxRecDepth 100000
namespace Af
open PySem L2
abbrev s_l_drawn : Stmt := top 30
abbrev N_l_drawn : List Str := ["_law_pen_here", "_law_many", "_law_most", "_law_kinds", "_law_cells_here", "_law_plan_here", "_law_turn", "_law_longer", "_law_k"]
theorem sc_l_drawn : FnScope N_l_drawn ["_law_pen_here", "_law_many", "_law_most", "_law_kinds"] (defScope s_l_drawn) := ⟨rfl, rfl, rfl, by decide +kernel, rfl, by decide +kernel, by decide +kernel⟩

abbrev s_l_log : Stmt := top 31
abbrev N_l_log : List Str := ["_law_pen_here", "_law_kinds", "_law_news", "_law_steps_here", "_law_step_here"]
theorem sc_l_log : FnScope N_l_log ["_law_pen_here", "_law_kinds"] (defScope s_l_log) := ⟨rfl, rfl, rfl, by decide +kernel, rfl, by decide +kernel, by decide +kernel⟩

abbrev s_l_copy : Stmt := top 32
abbrev N_l_copy : List Str := ["_law_pen_here", "_law_kinds", "_law_news", "_law_steps_here"]
theorem sc_l_copy : FnScope N_l_copy ["_law_pen_here", "_law_kinds"] (defScope s_l_copy) := ⟨rfl, rfl, rfl, by decide +kernel, rfl, by decide +kernel, by decide +kernel⟩

abbrev s_l_plan : Stmt := top 33
abbrev N_l_plan : List Str := ["_law_pen_here", "_law_most", "_law_road"]
theorem sc_l_plan : FnScope N_l_plan ["_law_pen_here", "_law_most"] (defScope s_l_plan) := ⟨rfl, rfl, rfl, by decide +kernel, rfl, by decide +kernel, by decide +kernel⟩

def sp_drawn : Sp := fun vs H Q _ => ∃ (q : Pn) (m : Nat) (many most kinds : Int), vs = [.ref q.p, .int many, .int most, .int kinds] ∧ Pen q m H ∧ m + 2000 < 1000000000000 ∧ 1 ≤ many ∧ many ≤ 24 ∧ 0 ≤ most ∧ most ≤ 12 ∧ 1 ≤ kinds ∧ kinds ≤ 8 ∧
  ∀ v H' pl, Go q (m + 2000) H H' → PlanV q.p H' v pl → Good (2 * most.toNat) (3 * most.toNat) pl → pl.cs.length = many.toNat → Q v H'
def sp_log : Sp := fun vs H Q _ => ∃ (q : Pn) (m : Nat) (kinds : Int), vs = [.ref q.p, .int kinds] ∧ Pen q m H ∧ m + 20 < 1000000000000 ∧ 1 ≤ kinds ∧ kinds ≤ 8 ∧
  ∀ v H' pl, Go q (m + 20) H H' → PlanV q.p H' v pl → Good 10 10 pl → pl.cs.length = 5 → Q v H'
def sp_plan : Sp := fun vs H Q _ => ∃ (q : Pn) (m : Nat) (most : Int), vs = [.ref q.p, .int most] ∧ Pen q m H ∧ m + 2100 < 1000000000000 ∧ 0 ≤ most ∧ most ≤ 12 ∧
  ∀ v H' pl, Go q (m + 2100) H H' → PlanV q.p H' v pl → Good (2 * most.toNat + 10) (3 * most.toNat + 10) pl → pl.cs.length ≤ 5 → Q v H'
section
variable {P : Program} {w : World} {K : PySem.W.Frag} {mg : Str → Option Value} {base : Heap}
theorem ok_drawn {f : Addr} {fd : FuncData} (F : Fun K "_law_drawn" "_law_drawn" s_l_drawn f fd) (T : Txt mg) (c_l_draw : Cal P w K mg base 2 "_law_draw" ["_law_pen_here", "_law_under"] sp_draw)
    (c_l_parts : Cal P w K mg base 2 "_law_parts" ["_law_plan_here"] sp_parts) (c_l_write : Cal P w K mg base 3 "_law_write" ["_law_pen_here", "_law_many", "_law_kinds", "_law_longest_row"] sp_write) :
    FnOk P w K mg base CX0 4 f fd ["_law_pen_here", "_law_many", "_law_most", "_law_kinds"] sp_drawn := by
  refine F.ok sc_l_drawn (fun vs H Q E h => ?_) (fun cdv A outer s H vs Q E hr h => ?_)
  · obtain ⟨_, _, _, _, _, rfl, _⟩ := h
    rfl
  obtain ⟨q, m, many, most, kinds, rfl, hP, hm, m1, m2, o1, o2, k1, k2, k⟩ := h
  refine ⟨_, (pss_cons (ps_set (i := 4) sc_l_drawn.nd rfl (Or.inl rfl) (pe_callTy call_tuple' (by rfl) T.tuple (by decide +kernel) (pa_cons (pe_lc (own := [("_law_k", 8)]) (g := (gName 8)) (tt := tYes) rfl sc_l_drawn.nd (pi_range1 rfl T.range (pa_cons (pv 1) pa_nil)) (blkOk_by (own := [("_law_k", 8)]) (N := N_l_drawn) (sc := defScope s_l_drawn) (by decide +kernel)) (fun _ _ _ _ _ => pg_name (i := 8) sc_l_drawn.nd rfl (Or.inl rfl)) (fun _ _ _ _ _ => pts_nil) (fun _ _ _ _ _ => (pe_cal c_l_draw hr (pa_cons (pv 0) (pa_cons (pv 3) pa_nil))))) pa_nil)))
    (pss_cons (ps_set (i := 5) sc_l_drawn.nd rfl (Or.inl rfl) (pe_tup' (pa_cons (pv 4) (pa_cons (pe_op op_add pe_int (pe_cal c_l_draw hr (pa_cons (pv 0) (pa_cons pe_int pa_nil)))) (pa_cons (pe_lst' pa_nil) pa_nil)))))
    (pss_cons (ps_for PassesOwn.never rfl (pi_range1 rfl T.range (pa_cons (pe_cal c_l_draw hr (pa_cons (pv 0) (pa_cons (pe_op op_add (pv 2) pe_int) pa_nil))) pa_nil)) (pg_name (i := 6) sc_l_drawn.nd rfl (Or.inl rfl))
      (pss_cons (ps_set (i := 7) sc_l_drawn.nd rfl (Or.inl rfl) (pe_op op_cat' (pe_ix ix_seq' (pv 5) pe_int (fun _ _ => rfl)) (pe_lst' (pa_cons (pe_cal c_l_write hr (pa_cons (pv 0) (pa_cons (pv 1) (pa_cons (pv 3) (pa_cons pe_int pa_nil))))) pa_nil))))
    (pss_cons (ps_cut (ps_if (pt_cmpR op_le (pe_callB call_len' (by rfl) T.len (by decide +kernel) (pa_cons (pe_cal c_l_parts hr (pa_cons (pe_tup' (pa_cons (pv 4) (pa_cons (pe_ix ix_seq' (pv 5) pe_int (fun _ _ => rfl)) (pa_cons (pv 7) pa_nil)))) pa_nil)) pa_nil)) (pv 2) (nomark _))
      (pss_one (ps_set (i := 5) sc_l_drawn.nd rfl (Or.inl rfl) (pe_tup' (pa_cons (pv 4) (pa_cons (pe_ix ix_seq' (pv 5) pe_int (fun _ _ => rfl)) (pa_cons (pv 7) pa_nil))))))
      pss_nil))
    (pss_one (ps_if (pt_cmpR op_eq (pe_cal c_l_draw hr (pa_cons (pv 0) (pa_cons pe_int pa_nil))) pe_int (nomark _))
      (pss_one (ps_set (i := 5) sc_l_drawn.nd rfl (Or.inl rfl) (pe_tup' (pa_cons (pv 4) (pa_cons (pe_ix ix_seq' (pv 5) pe_int (fun _ _ => rfl)) (pa_cons (pe_op op_cat' (pe_ix ix_seq' (pv 5) pe_int (fun _ _ => rfl)) (pe_lst' (pa_cons pe_non pa_nil))) pa_nil))))))
      pss_nil)))))
    (pss_one (ps_ret (pv 5)))))), ?_⟩
  -- the cells
  refine ⟨_, rfl, _, rfl, ?_, ?_, ?_⟩
  · omega
  · omega
  refine lc_draws (q := q) (m := m) (u := kinds) hP ?_ ?_ (fun x H3 Q m3 p3 h3 kk => ?_) (fun D H1 cs hD g1 h1 hl hb => ?_)
  · omega
  · exact fun x => rfl
  · exact ⟨_, rfl, _, rfl, q, m3, kinds, rfl, by omega, by omega, p3, by omega, kk⟩
  refine ⟨D, _, rfl, .inl h1, fun ca H2 s2 h2 => ?_⟩
  -- the plan without steps
  have g2 := (g1.same s2).mono (m' := m + 24) (by omega)
  refine ⟨_, rfl, _, rfl, q, m + 24, 3, rfl, by decide, by decide, g2.pen, by omega, fun d H3 d0 d1 g3 => ⟨_, _, rfl, rfl, szr, fun l H4 hl4 s4 h4 => ⟨szr, fun t H5 ht s5 h5 => ?_⟩⟩⟩
  have g5 := ((g2.trans g3).same s4).same s5
  -- the turns
  refine ⟨_, rfl, _, rfl, _, _, rfl, rfl, q, m + 25, most + 1, rfl, by omega, by omega, g5.pen, by omega, fun n H6 n0 n1 g6 => ⟨_, rfl, by omega, by omega, ?_⟩⟩
  have g7 := g5.trans g6
  have c6 : H6 ca = some (.tup (ivs cs)) := g6.kp.tup (s5 _ _ (s4 _ _ (g3.kp.tup h2)))
  have hcs : cs.length = many.toNat := hl
  refine for_range (lo := 0) (fun i σ' H' => ∃ v pl lv kv, σ' = [some (.ref q.p), some (.int many), some (.int most), some (.int kinds), some (.ref ca), some v, kv, lv, none] ∧ Go q (m + 26 + 31 * i) H H' ∧ H' ca = some (.tup (ivs cs)) ∧ PlanV q.p H' v pl ∧ pl.cs = cs ∧ Good (2 * i) (3 * i) pl) ?_ ?_ ?_
  · refine ⟨.ref t, ⟨cs, 1 + d, []⟩, none, none, rfl, g7, c6, ?_, rfl, ?_⟩
    · refine (PlanV.mk ⟨t, ca, l, [], rfl, h5, s5 _ _ (s4 _ _ (g3.kp.tup h2)), (g3.pen.free hl4).1, s5 _ _ h4, .nil⟩ : PlanV q.p H5 (.ref t) ⟨cs, 1 + d, []⟩).kp g6.kp
    · exact ⟨by show 1 ≤ cs.length; omega, by show cs.length ≤ 24; omega, fun z hz => by have := hb z hz; omega, by show 1 ≤ 1 + d; omega, by show 1 + d ≤ 24; omega, fun x hx => by simp at hx, Nat.le_refl _, Nat.le_refl _⟩
  · rintro i σ' H' hi ⟨v, pl, lv, kv, rfl, gi, ci, hv, ec, gd⟩
    have hi' : (i : Int) < most := by omega
    obtain ⟨a, ca', sa, xs, rfl, ha, hca, hn, hsa, hst⟩ := hv.ex
    -- longer
    refine ⟨_, rfl, a, _, _, _, rfl, rfl, .inr ha, rfl, _, rfl, _, rfl, _, rfl, q, _, many, kinds, 3, rfl, gi.pen, by omega, by omega, by omega, by omega, by omega, by decide, by decide, fun wv H1 f ws gw hsv f0 wn wl wm wb => ⟨szr, fun ll H2 hll s2' h2' => ?_⟩⟩
    have xl := paired_len hst
    have sl := gd.sl
    refine ⟨sa, ll, xs, _, rfl, rfl, s2' _ _ (gw.kp.lst hn hsa), h2', sz (by show xs.length + 1 ≤ 100000; omega), fun r H3 hr3 s3' h3' => ?_⟩
    have g3' := (gw.same s2').same s3'
    have st3 : Paired (StepV H3) (xs ++ [wv]) (pl.sts ++ [some (f, ws)]) := steps_same s3' (steps_same s2' (paired_app (steps_kp gw.kp hst) (.cons hsv .nil)))
    have a3 := g3'.kp.tup ha
    have c3 := g3'.kp.tup ci
    have v3 := hv.kp g3'.kp
    refine ⟨fun σ'' H'' => ∃ v pl lv kv, σ'' = [some (.ref q.p), some (.int many), some (.int most), some (.int kinds), some (.ref ca), some v, kv, lv, none] ∧ Go q (m + 56 + 31 * i) H H'' ∧ H'' ca = some (.tup (ivs cs)) ∧ PlanV q.p H'' v pl ∧ pl.cs = cs ∧ Good (2 * i + 1) (3 * i + 3) pl, ?_, ?_⟩
    · refine ⟨_, rfl, _, rfl, a, _, _, _, rfl, rfl, .inr a3, rfl, _, rfl, szr, fun tt H4 htt s4' h4' => ?_⟩
      have okl : ∀ f ws, some (f, ws) ∈ pl.sts ++ [some (f, ws)] → True := fun _ _ _ => trivial
      refine ⟨tt, ca, r, pl.w, xs ++ [wv], pl.sts ++ [some (f, ws)], rfl, h4', s4' _ _ h3', steps_same s4' st3, by have := gd.w1; omega, by rw [List.length_append]; show xs.length + 1 ≤ 100; omega, fun f' ws' hm' => ?_, fun pl2 H5 ys s5' hp2 h5' => ?_⟩
      · rcases List.mem_append.mp hm' with z | z
        · have q1 := gd.st _ z
          obtain ⟨q2, _, q3, _⟩ := q1
          have := gd.c24
          omega
        · cases List.mem_singleton.mp z
          omega
      · have gg := (gi.trans g3').same s4' |>.same s5'
        refine ⟨pl2, _, rfl, .inl h5', _, rfl, _, _, rfl, rfl, _, rfl, ite2 (fun _ => ?_) (fun _ => ?_)⟩
        · have a5 := s5' _ _ (s4' _ _ a3)
          refine ⟨_, rfl, _, rfl, a, _, _, _, rfl, rfl, .inr a5, rfl, _, rfl, szr, fun t2 H6 ht2 s6' h6' => ?_⟩
          have c6' := s6' _ _ (s5' _ _ (s4' _ _ c3))
          refine ⟨.ref t2, ⟨cs, pl.w, pl.sts ++ [some (f, ws)]⟩, _, _, rfl, (gg.same s6').mono (by omega), c6', ⟨t2, ca, r, _, rfl, h6', c6', ?_, s6' _ _ (s5' _ _ (s4' _ _ h3')), steps_same s6' (steps_same s5' (steps_same s4' st3))⟩, rfl, ?_⟩
          · exact ((gw.same s2').pen.free hr3).1
          · refine ⟨by show 1 ≤ cs.length; omega, by show cs.length ≤ 24; omega, fun z hz => by have := hb z hz; omega, gd.w1, gd.w24, fun x hx => ?_, ?_, ?_⟩
            · rcases List.mem_append.mp hx with z | z
              · have := gd.st x z
                rw [ec] at this
                exact this
              · rw [List.mem_singleton.mp z]
                exact ⟨f0, wn, by show f + (ws.length : Int) ≤ (cs.length : Int); omega, fun z hz => by have := wb z hz; omega⟩
            · show (pl.sts ++ [some (f, ws)]).length ≤ _
              rw [List.length_append]
              show pl.sts.length + 1 ≤ _
              omega
            · show tot (pl.sts ++ [some (f, ws)]) ≤ _
              rw [tot_app, tot_one]
              have := gd.tl
              show tot pl.sts + ws.length ≤ _
              omega
        · exact ⟨.ref a, pl, _, _, rfl, gg.mono (by omega), s5' _ _ (s4' _ _ c3), (v3.same s4').same s5', ec, gd.mono (by omega) (by omega)⟩
    · rintro σ'' H'' ⟨v, pl, lv, kv, rfl, gj, cj, hv, ec, gd⟩
      refine ⟨_, rfl, q, _, 3, rfl, by decide, by decide, gj.pen, by omega, fun d H1 d0 d1 g1 => ⟨rfl, _, rfl, ite2 (fun _ => ?_) (fun _ => ?_)⟩⟩
      · have hv1 := hv.kp g1.kp
        obtain ⟨a, ca', sa, xs, rfl, ha, hca, hn, hsa, hst⟩ := hv1.ex
        have xl := paired_len hst
        have sl := gd.sl
        refine ⟨_, rfl, _, rfl, a, _, _, _, rfl, rfl, .inr ha, rfl, _, rfl, a, _, _, _, rfl, rfl, .inr ha, rfl, szr, fun ll H2 hll s2' h2' => ?_⟩
        refine ⟨sa, ll, xs, _, rfl, rfl, s2' _ _ hsa, h2', sz (by show xs.length + 1 ≤ 100000; omega), fun r H3 hr3 s3' h3' => ⟨szr, fun t2 H4 ht2 s4' h4' => ?_⟩⟩
        have gg := ((((gj.trans g1).same s2').same s3').same s4')
        have c4 := s4' _ _ (s3' _ _ (s2' _ _ (g1.kp.tup cj)))
        refine ⟨.ref t2, ⟨cs, pl.w, pl.sts ++ [none]⟩, _, _, rfl, gg.mono (by omega), c4, ⟨t2, ca, r, _, rfl, h4', c4, ((g1.same s2').pen.free hr3).1, s4' _ _ h3', steps_same s4' (steps_same s3' (steps_same s2' (paired_app hst (.cons rfl .nil))))⟩, rfl, ?_⟩
        refine ⟨by show 1 ≤ cs.length; omega, by show cs.length ≤ 24; omega, fun z hz => by have := hb z hz; omega, gd.w1, gd.w24, fun x hx => ?_, ?_, ?_⟩
        · rcases List.mem_append.mp hx with z | z
          · have := gd.st x z
            rw [ec] at this
            exact this
          · rw [List.mem_singleton.mp z]
            exact True.intro
        · show (pl.sts ++ [none]).length ≤ _
          rw [List.length_append]
          show pl.sts.length + 1 ≤ _
          omega
        · show tot (pl.sts ++ [none]) ≤ _
          rw [tot_app, tot_one]
          have := gd.tl
          show tot pl.sts + 0 ≤ _
          omega
      · exact ⟨v, pl, _, _, rfl, (gj.trans g1).mono (by omega), g1.kp.tup cj, hv.kp g1.kp, ec, gd.mono (by omega) (by omega)⟩
  · rintro σ' H' ⟨v, pl, lv, kv, rfl, gi, ci, hv, ec, gd⟩
    exact ⟨_, rfl, k v H' pl (gi.mono (by omega)) hv (gd.mono (by omega) (by omega)) (by rw [ec]; exact hcs)⟩
end
end Af

set_option Elab.async false
set_option linter.all false
set_option maxRecDepth 100000
namespace Af
open PySem L2
/-- no or one barrier -/
theorem rep_none {kk : Int} (h : kk = 0 ∨ kk = 1) {H : Hp} : ∃ bs : List Stp, Paired (StepV H) (List.replicate kk.toNat [V.non]).flatten bs ∧ bs.length ≤ 1 ∧ tot bs = 0 ∧ ∀ x ∈ bs, x = none := by
  rcases h with h | h
  · subst h
    exact ⟨[], .nil, Nat.zero_le _, rfl, fun x hx => by simp at hx⟩
  · subst h
    exact ⟨[none], .cons rfl .nil, Nat.le_refl _, rfl, fun x hx => List.mem_singleton.mp hx⟩
theorem one_or {c : Bool} : ∃ kk : Int, (if c = true then (1 : Int) else 0) = kk ∧ (kk = 0 ∨ kk = 1) := by
  cases c with
  | true => exact ⟨1, rfl, .inr rfl⟩
  | false => exact ⟨0, rfl, .inl rfl⟩
theorem rep_len {kk : Int} (h : kk = 0 ∨ kk = 1) : (List.replicate kk.toNat [V.non]).flatten.length ≤ 1 := by
  rcases h with h | h <;> (subst h; decide)
section
variable {P : Program} {w : World} {K : PySem.W.Frag} {mg : Str → Option Value} {base : Heap}
theorem ok_log {f : Addr} {fd : FuncData} (F : Fun K "_law_log" "_law_log" s_l_log f fd) (T : Txt mg) (c_l_draw : Cal P w K mg base 2 "_law_draw" ["_law_pen_here", "_law_under"] sp_draw) :
    FnOk P w K mg base CX0 3 f fd ["_law_pen_here", "_law_kinds"] sp_log := by
  refine F.ok sc_l_log (fun vs H Q E h => ?_) (fun cdv A outer s H vs Q E hr h => ?_)
  · obtain ⟨_, _, _, rfl, _⟩ := h
    rfl
  obtain ⟨q, m, kinds, rfl, hP, hm, k1, k2, k⟩ := h
  refine ⟨_, (pss_cons (ps_set (i := 2) sc_l_log.nd rfl (Or.inl rfl) (pe_tup' (pa_cons (pe_cal c_l_draw hr (pa_cons (pv 0) (pa_cons (pv 1) pa_nil))) (pa_cons (pe_cal c_l_draw hr (pa_cons (pv 0) (pa_cons (pv 1) pa_nil))) pa_nil))))
    (pss_cons (ps_set (i := 3) sc_l_log.nd rfl (Or.inl rfl) (pe_lst' (pa_cons (pe_tup' (pa_cons pe_int (pa_cons (pv 2) pa_nil))) pa_nil)))
    (pss_cons (ps_for PassesOwn.never rfl (pi_tup (pe_tup' (pa_cons (pe_tup' (pa_cons pe_int (pa_cons (pe_tup' (pa_cons pe_int pa_nil)) pa_nil))) (pa_cons (pe_tup' (pa_cons pe_int (pa_cons (pv 2) pa_nil))) (pa_cons (pe_tup' (pa_cons pe_int (pa_cons (pe_tup' (pa_cons pe_int pa_nil)) pa_nil))) pa_nil))))) (pg_name (i := 4) sc_l_log.nd rfl (Or.inl rfl))
      (pss_one (ps_set (i := 3) sc_l_log.nd rfl (Or.inl rfl) (pe_op op_cat' (pe_op op_cat' (pv 3) (pe_op op_rep' (pe_lst' (pa_cons pe_non pa_nil)) (pe_callTy call_int1 (by rfl) T.int (by decide +kernel) (pa_cons (pe_cmpR op_gt (pe_cal c_l_draw hr (pa_cons (pv 0) (pa_cons pe_int pa_nil))) pe_int (nomark _)) pa_nil)))) (pe_lst' (pa_cons (pv 4) pa_nil))))))
    (pss_one (ps_ret (pe_tup' (pa_cons (pe_tup' (pa_cons pe_int (pa_cons pe_int (pa_cons pe_int (pa_cons (pe_cal c_l_draw hr (pa_cons (pv 0) (pa_cons (pv 1) pa_nil))) (pa_cons (pe_cal c_l_draw hr (pa_cons (pv 0) (pa_cons (pv 1) pa_nil))) pa_nil)))))) (pa_cons (pe_op op_add pe_int (pe_cal c_l_draw hr (pa_cons (pv 0) (pa_cons pe_int pa_nil)))) (pa_cons (pv 3) pa_nil))))))))), ?_⟩
  refine ⟨_, rfl, _, rfl, q, m, kinds, rfl, by omega, by omega, hP, by omega, fun d1 H1 d10 d11 g1 => ⟨_, rfl, _, rfl, q, m + 1, kinds, rfl, by omega, by omega, g1.pen, by omega, fun d2 H2 d20 d21 g2 => ⟨szr, fun nw H3 hn s3 h3 => ?_⟩⟩⟩
  refine ⟨_, rfl, szr, fun t H4 ht s4 h4 => ⟨szr, fun sl H5 hsl s5 h5 => ?_⟩⟩
  have g5 := (((g1.trans g2).same s3).same s4).same s5
  have nsl := (((g1.trans g2).same s3).same s4).pen.free hsl
  refine ⟨szr, fun a1 H6 _ s6 h6 => ⟨szr, fun t1 H7 _ s7 h7 => ⟨_, rfl, szr, fun t2 H8 _ s8 h8 => ⟨szr, fun a3 H9 _ s9 h9 => ⟨szr, fun t3 H10 _ s10 h10 => ⟨szr, fun tt H11 _ s11 h11 => ?_⟩⟩⟩⟩⟩⟩
  have S := s6.trans (s7.trans (s8.trans (s9.trans (s10.trans s11))))
  have g11 := g5.same S
  have nw11 : H11 nw = some (.tup (ivs [d1, d2])) := S _ _ (s5 _ _ (s4 _ _ h3))
  have its : Paired (StepV H11) [V.ref t1, V.ref t2, V.ref t3] [some (2, [1]), some (3, [d1, d2]), some (2, [0])] :=
    .cons ⟨t1, a1, rfl, s11 _ _ (s10 _ _ (s9 _ _ (s8 _ _ h7))), s11 _ _ (s10 _ _ (s9 _ _ (s8 _ _ (s7 _ _ h6))))⟩
      (.cons ⟨t2, nw, rfl, s11 _ _ (s10 _ _ (s9 _ _ h8)), nw11⟩ (.cons ⟨t3, a3, rfl, s11 _ _ h10, s11 _ _ (s10 _ _ h9)⟩ .nil))
  have iok : ∀ x ∈ ([some (2, [1]), some (3, [d1, d2]), some (2, [0])] : List Stp), OkS 5 x ∧ stl x ≤ 2 := by
    intro x hx
    simp only [List.mem_cons, List.not_mem_nil, or_false] at hx
    rcases hx with rfl | rfl | rfl
    · exact ⟨⟨by decide, by simp, by decide, fun z hz => by rw [List.mem_singleton.mp hz]; decide⟩, by decide⟩
    · refine ⟨⟨by decide, by simp, by show (3 : Int) + 2 ≤ 5; decide, fun z hz => ?_⟩, Nat.le_refl _⟩
      simp only [List.mem_cons, List.not_mem_nil, or_false] at hz
      rcases hz with rfl | rfl <;> omega
    · exact ⟨⟨by decide, by simp, by decide, fun z hz => by rw [List.mem_singleton.mp hz]; decide⟩, by decide⟩
  refine ⟨tt, rfl, ⟨_, SqT.of h11⟩, for_tup (K := K) (a := tt) (xs := [V.ref t1, V.ref t2, V.ref t3]) (fun i σ' H' => ∃ sl xs sts kv, σ' = [some (.ref q.p), some (.int kinds), some (.ref nw), some (.ref sl), kv] ∧ Go q (m + 2 + i) H H' ∧ Kp q.p H11 H' ∧ sl ≠ q.p ∧ H' sl = some (.lst xs) ∧ Paired (StepV H') xs sts ∧ sts.length ≤ 1 + 2 * i ∧ (∀ x ∈ sts, OkS 5 x) ∧ tot sts ≤ 2 + 2 * i) ?_ ?_ ?_ ?_⟩
  · refine ⟨sl, _, [some (0, [d1, d2])], none, rfl, g11, Kp.refl, nsl.1, S _ _ h5, .cons ⟨t, nw, rfl, S _ _ (s5 _ _ h4), nw11⟩ .nil, Nat.le_refl _, fun x hx => ?_, Nat.le_refl _⟩
    rw [List.mem_singleton.mp hx]
    refine ⟨by decide, by simp, by show (0 : Int) + 2 ≤ 5; decide, fun z hz => ?_⟩
    simp only [List.mem_cons, List.not_mem_nil, or_false] at hz
    rcases hz with rfl | rfl <;> omega
  · rintro i σ' H' hi ⟨sl, xs, sts, kv, rfl, gi, ki, _⟩
    exact SqT.of (ki.tup h11)
  · rintro i x σ' H' hx ⟨sl, xs, sts, kv, rfl, gi, ki, ns, h1', hst, l1, ok, l2⟩
    have i3 : i < 3 := (List.getElem?_eq_some_iff.mp hx).1
    obtain ⟨st, hs1, hs2⟩ := paired_get its hx
    obtain ⟨o1, o2⟩ := iok st (List.mem_of_getElem? hs1)
    have xl := paired_len hst
    refine ⟨_, rfl, szr, fun nl H1' hnl s1' h2' => ⟨_, rfl, q, _, 3, rfl, by decide, by decide, gi.pen.same s1', by omega, fun d H2' d0 d1' gd => ⟨_, _, rfl, rfl, .inr ⟨_, rfl, ?_⟩⟩⟩⟩
    obtain ⟨kk, ek, hk⟩ := one_or (c := decide (0 < d))
    rw [ek]
    have gg := (gi.same s1').trans gd
    have hnl' : nl ≠ q.p := (gi.pen.free hnl).1
    refine ⟨nl, kk, _, rfl, rfl, gd.kp.lst hnl' h2', by omega, by omega, sz (by show 1 * kk.toNat ≤ 100000; omega), fun r H3' hr3 s3' h3' => ?_⟩
    have rl := rep_len hk
    refine ⟨sl, r, xs, _, rfl, rfl, s3' _ _ (gd.kp.lst ns (s1' _ _ h1')), h3', sz (by omega), fun r2 H4' hr4 s4' h4' => ⟨_, rfl, szr, fun l5 H5' h5n s5' h5' => ?_⟩⟩
    have gg4 := ((gg.same s3').same s4').same s5'
    refine ⟨r2, l5, _, _, rfl, rfl, s5' _ _ h4', h5', sz (by rw [List.length_append]; show _ + 1 ≤ 100000; omega), fun r6 H6' h6n s6' h6' => ?_⟩
    obtain ⟨bs, b1, b2, b3, b4⟩ := rep_none hk (H := H6')
    have kk6 : Kp q.p H' H6' := (Kp.same s1').trans (gd.kp.trans (Kp.same (s3'.trans (s4'.trans (s5'.trans s6')))))
    refine ⟨r6, _, (sts ++ bs) ++ [st], _, rfl, (gg4.same s6').mono (by omega), ki.trans kk6, (gg4.pen.free h6n).1, h6', paired_app (paired_app (steps_kp kk6 hst) b1) (.cons ((hs2.kp ki).kp kk6) .nil), ?_, fun y hy => ?_, ?_⟩
    · rw [List.length_append, List.length_append]
      show sts.length + bs.length + 1 ≤ _
      omega
    · rcases List.mem_append.mp hy with hy | hy
      · rcases List.mem_append.mp hy with hy | hy
        · exact ok y hy
        · rw [b4 y hy]
          exact True.intro
      · rw [List.mem_singleton.mp hy]
        exact o1
    · rw [tot_app, tot_app, tot_one, b3]
      omega
  · rintro σ' H' ⟨sl, xs, sts, kv, rfl, gi, ki, ns, h1', hst, l1, ok, l2⟩
    have l1' : sts.length ≤ 7 := l1
    have l2' : tot sts ≤ 8 := l2
    have gi' : Go q (m + 5) H H' := gi
    refine ⟨_, rfl, _, rfl, q, m + 5, kinds, rfl, by omega, by omega, gi'.pen, by omega, fun e1 H1' e10 e11 ge1 => ⟨_, rfl, _, rfl, q, _, kinds, rfl, by omega, by omega, ge1.pen, by omega, fun e2 H2' e20 e21 ge2 => ⟨szr, fun ct H3' hct s3' h3' => ?_⟩⟩⟩
    refine ⟨_, rfl, q, _, 2, rfl, by decide, by decide, ge2.pen.same s3', by omega, fun d H4' d0 d1' gd => ⟨_, _, rfl, rfl, _, rfl, szr, fun r H5' hr5 s5' h5' => ?_⟩⟩
    have gg := (((gi'.trans (ge1.trans ge2)).same s3').trans gd).same s5'
    have kp : Kp q.p H' H5' := ge1.kp.trans (ge2.kp.trans ((Kp.same s3').trans (gd.kp.trans (Kp.same s5'))))
    refine k (.ref r) H5' ⟨[0, 0, 0, e1, e2], 1 + d, sts⟩ (gg.mono (by omega)) ⟨r, ct, sl, xs, rfl, h5', s5' _ _ (gd.kp.tup h3'), ns, kp.lst ns h1', steps_kp kp hst⟩ ?_ rfl
    refine ⟨by show 1 ≤ 5; decide, by show 5 ≤ 24; decide, fun z hz => ?_, by show 1 ≤ 1 + d; omega, by show 1 + d ≤ 24; omega, ok, by show sts.length ≤ 10; omega, by show tot sts ≤ 10; omega⟩
    simp only [List.mem_cons, List.not_mem_nil, or_false] at hz
    rcases hz with rfl | rfl | rfl | rfl | rfl <;> omega
theorem ok_copy {f : Addr} {fd : FuncData} (F : Fun K "_law_copy" "_law_copy" s_l_copy f fd) (T : Txt mg) (c_l_draw : Cal P w K mg base 2 "_law_draw" ["_law_pen_here", "_law_under"] sp_draw) :
    FnOk P w K mg base CX0 3 f fd ["_law_pen_here", "_law_kinds"] sp_log := by
  refine F.ok sc_l_copy (fun vs H Q E h => ?_) (fun cdv A outer s H vs Q E hr h => ?_)
  · obtain ⟨_, _, _, rfl, _⟩ := h
    rfl
  obtain ⟨q, m, kinds, rfl, hP, hm, k1, k2, k⟩ := h
  refine ⟨_, (pss_cons (ps_set (i := 2) sc_l_copy.nd rfl (Or.inl rfl) (pe_tup' (pa_cons (pe_cal c_l_draw hr (pa_cons (pv 0) (pa_cons (pv 1) pa_nil))) (pa_cons (pe_cal c_l_draw hr (pa_cons (pv 0) (pa_cons (pv 1) pa_nil))) pa_nil))))
    (pss_cons (ps_set (i := 3) sc_l_copy.nd rfl (Or.inl rfl) (pe_op op_cat' (pe_op op_cat' (pe_lst' (pa_cons (pe_tup' (pa_cons pe_int (pa_cons (pv 2) pa_nil))) pa_nil)) (pe_op op_rep' (pe_lst' (pa_cons pe_non pa_nil)) (pe_callTy call_int1 (by rfl) T.int (by decide +kernel) (pa_cons (pe_cmpR op_gt (pe_cal c_l_draw hr (pa_cons (pv 0) (pa_cons pe_int pa_nil))) pe_int (nomark _)) pa_nil)))) (pe_lst' (pa_cons (pe_tup' (pa_cons pe_int (pa_cons (pe_tup' (pa_cons pe_int pa_nil)) pa_nil))) pa_nil))))
    (pss_one (ps_ret (pe_tup' (pa_cons (pe_tup' (pa_cons (pe_cal c_l_draw hr (pa_cons (pv 0) (pa_cons (pv 1) pa_nil))) (pa_cons (pe_cal c_l_draw hr (pa_cons (pv 0) (pa_cons (pv 1) pa_nil))) (pa_cons pe_int (pa_cons pe_int (pa_cons pe_int pa_nil)))))) (pa_cons (pe_op op_add pe_int (pe_cal c_l_draw hr (pa_cons (pv 0) (pa_cons pe_int pa_nil)))) (pa_cons (pv 3) pa_nil)))))))), ?_⟩
  refine ⟨_, rfl, _, rfl, q, m, kinds, rfl, by omega, by omega, hP, by omega, fun d1 H1 d10 d11 g1 => ⟨_, rfl, _, rfl, q, m + 1, kinds, rfl, by omega, by omega, g1.pen, by omega, fun d2 H2 d20 d21 g2 => ⟨szr, fun nw H3 hn s3 h3 => ?_⟩⟩⟩
  refine ⟨_, rfl, szr, fun t H4 ht s4 h4 => ⟨szr, fun sl H5 hsl s5 h5 => ⟨szr, fun nl H6 hnl s6 h6 => ?_⟩⟩⟩
  have g6 := ((((g1.trans g2).same s3).same s4).same s5).same s6
  have nsl := (((g1.trans g2).same s3).same s4).pen.free hsl
  have nnl := ((((g1.trans g2).same s3).same s4).same s5).pen.free hnl
  refine ⟨_, rfl, q, _, 3, rfl, by decide, by decide, g6.pen, by omega, fun d H7 d0 d1' gd => ⟨_, _, rfl, rfl, .inr ⟨_, rfl, ?_⟩⟩⟩
  obtain ⟨kk, ek, hk⟩ := one_or (c := decide (0 < d))
  rw [ek]
  refine ⟨nl, kk, _, rfl, rfl, gd.kp.lst nnl.1 h6, by omega, by omega, sz (by show 1 * kk.toNat ≤ 100000; omega), fun r H8 hr8 s8 h8 => ?_⟩
  have rl := rep_len hk
  refine ⟨sl, r, _, _, rfl, rfl, s8 _ _ (gd.kp.lst nsl.1 (s6 _ _ h5)), h8, sz (by show 1 + _ ≤ 100000; omega), fun r2 H9 hr9 s9 h9 => ⟨szr, fun a3 H10 ha3 s10 h10 => ⟨szr, fun t3 H11 ht3 s11 h11 => ⟨szr, fun l5 H12 hl5 s12 h12 => ?_⟩⟩⟩⟩
  have S := s9.trans (s10.trans (s11.trans s12))
  refine ⟨r2, l5, _, _, rfl, rfl, s12 _ _ (s11 _ _ (s10 _ _ h9)), h12, sz (by rw [List.length_append]; show (1 + _) + 1 ≤ 100000; omega), fun r6 H13 h13n s13 h13 => ?_⟩
  obtain ⟨bs, b1, b2, b3, b4⟩ := rep_none hk (H := H13)
  have kp6 : Kp q.p H6 H13 := gd.kp.trans (Kp.same (s8.trans (S.trans s13)))
  have g13 := (((((((g6.trans gd).same s8).same s9).same s10).same s11).same s12).same s13)
  have n6 := (((((((g6.trans gd).same s8).same s9).same s10).same s11).same s12)).pen.free h13n
  have nw13 : H13 nw = some (.tup (ivs [d1, d2])) := kp6.tup (s6 _ _ (s5 _ _ (s4 _ _ h3)))
  have hst : Paired (StepV H13) (([V.ref t] ++ (List.replicate kk.toNat [V.non]).flatten) ++ [V.ref t3]) (([some (2, [d1, d2])] ++ bs) ++ [some (4, [1])]) :=
    paired_app (paired_app (.cons ⟨t, nw, rfl, kp6.tup (s6 _ _ (s5 _ _ h4)), nw13⟩ .nil) b1) (.cons ⟨t3, a3, rfl, s13 _ _ (s12 _ _ h11), s13 _ _ (s12 _ _ (s11 _ _ h10))⟩ .nil)
  -- the plan
  refine ⟨_, rfl, _, rfl, q, _, kinds, rfl, by omega, by omega, g13.pen, by omega, fun e1 H1' e10 e11 ge1 => ⟨_, rfl, _, rfl, q, _, kinds, rfl, by omega, by omega, ge1.pen, by omega, fun e2 H2' e20 e21 ge2 => ⟨szr, fun ct H3' hct s3' h3' => ?_⟩⟩⟩
  refine ⟨_, rfl, q, _, 2, rfl, by decide, by decide, ge2.pen.same s3', by omega, fun d' H4' d0' d1'' gd' => ⟨_, _, rfl, rfl, _, rfl, szr, fun r' H5' hr5 s5' h5' => ?_⟩⟩
  have gg := (((g13.trans (ge1.trans ge2)).same s3').trans gd').same s5'
  have kp : Kp q.p H13 H5' := ge1.kp.trans (ge2.kp.trans ((Kp.same s3').trans (gd'.kp.trans (Kp.same s5'))))
  refine k (.ref r') H5' ⟨[e1, e2, 0, 0, 0], 1 + d', ([some (2, [d1, d2])] ++ bs) ++ [some (4, [1])]⟩ (gg.mono (by omega)) ⟨r', ct, r6, _, rfl, h5', s5' _ _ (gd'.kp.tup h3'), n6.1, kp.lst n6.1 h13, steps_kp kp hst⟩ ?_ rfl
  refine ⟨by show 1 ≤ 5; decide, by show 5 ≤ 24; decide, fun z hz => ?_, by show 1 ≤ 1 + d'; omega, by show 1 + d' ≤ 24; omega, fun x hx => ?_, ?_, ?_⟩
  · simp only [List.mem_cons, List.not_mem_nil, or_false] at hz
    rcases hz with rfl | rfl | rfl | rfl | rfl <;> omega
  · rcases List.mem_append.mp hx with hx | hx
    · rcases List.mem_append.mp hx with hx | hx
      · rw [List.mem_singleton.mp hx]
        refine ⟨by decide, by simp, by show (2 : Int) + 2 ≤ 5; decide, fun z hz => ?_⟩
        simp only [List.mem_cons, List.not_mem_nil, or_false] at hz
        rcases hz with rfl | rfl <;> omega
      · rw [b4 x hx]
        exact True.intro
    · rw [List.mem_singleton.mp hx]
      exact ⟨by decide, by simp, by show (4 : Int) + 1 ≤ 5; decide, fun z hz => by rw [List.mem_singleton.mp hz]; decide⟩
  · show (([some (2, [d1, d2])] ++ bs) ++ [some (4, [1])] : List Stp).length ≤ 10
    rw [List.length_append, List.length_append]
    show 1 + bs.length + 1 ≤ 10
    omega
  · show tot (([some (2, [d1, d2])] ++ bs) ++ [some (4, [1])] : List Stp) ≤ 10
    rw [tot_app, tot_app, tot_one, tot_one, b3]
    show 2 + 0 + 1 ≤ 10
    decide
theorem at3 {a b c : Int} {d : Int} (h0 : 0 ≤ d) (h1 : d < 3) : ∃ v, atI [V.int a, .int b, .int c] d = some (.int v) ∧ (v = a ∨ v = b ∨ v = c) := by
  have : d = 0 ∨ d = 1 ∨ d = 2 := by omega
  rcases this with rfl | rfl | rfl
  · exact ⟨a, rfl, .inl rfl⟩
  · exact ⟨b, rfl, .inr (.inl rfl)⟩
  · exact ⟨c, rfl, .inr (.inr rfl)⟩
theorem ok_plan {f : Addr} {fd : FuncData} (F : Fun K "_law_plan" "_law_plan" s_l_plan f fd) (T : Txt mg) (c_l_draw : Cal P w K mg base 2 "_law_draw" ["_law_pen_here", "_law_under"] sp_draw)
    (c_l_log : Cal P w K mg base 3 "_law_log" ["_law_pen_here", "_law_kinds"] sp_log) (c_l_copy : Cal P w K mg base 3 "_law_copy" ["_law_pen_here", "_law_kinds"] sp_log)
    (c_l_drawn : Cal P w K mg base 4 "_law_drawn" ["_law_pen_here", "_law_many", "_law_most", "_law_kinds"] sp_drawn) :
    FnOk P w K mg base CX0 5 f fd ["_law_pen_here", "_law_most"] sp_plan := by
  refine F.ok sc_l_plan (fun vs H Q E h => ?_) (fun cdv A outer s H vs Q E hr h => ?_)
  · obtain ⟨_, _, _, rfl, _⟩ := h
    rfl
  obtain ⟨q, m, most, rfl, hP, hm, o1, o2, k⟩ := h
  refine ⟨_, (pss_cons (ps_set (i := 2) sc_l_plan.nd rfl (Or.inl rfl) (pe_cal c_l_draw hr (pa_cons (pv 0) (pa_cons pe_int pa_nil))))
    (pss_cons (ps_cut (ps_if (PW.pt (pw_and (pt_cmpR op_eq (pv 2) pe_int (nomark _)) (pw_and1 (pt_cmpR op_gt (pv 1) pe_int (nomark _)))))
      (pss_one (ps_ret (pe_cal c_l_log hr (pa_cons (pv 0) (pa_cons pe_int pa_nil)))))
      pss_nil))
    (pss_cons (ps_cut (ps_if (PW.pt (pw_and (pt_cmpR op_eq (pv 2) pe_int (nomark _)) (pw_and1 (pt_cmpR op_gt (pv 1) pe_int (nomark _)))))
      (pss_one (ps_ret (pe_cal c_l_copy hr (pa_cons (pv 0) (pa_cons pe_int pa_nil)))))
      pss_nil))
    (pss_one (ps_ret (pe_cal c_l_drawn hr (pa_cons (pv 0) (pa_cons (pe_op op_add pe_int (pe_cal c_l_draw hr (pa_cons (pv 0) (pa_cons pe_int pa_nil)))) (pa_cons (pv 1) (pa_cons (pe_ix ix_seq' (pe_lst' (pa_cons pe_int (pa_cons pe_int (pa_cons pe_int pa_nil)))) (pe_cal c_l_draw hr (pa_cons (pv 0) (pa_cons pe_int pa_nil))) (fun _ _ => rfl)) pa_nil)))))))))), ?_⟩
  refine ⟨_, rfl, q, m, 6, rfl, by decide, by decide, hP, by omega, fun d H1 d0 d1 g1 => ?_⟩
  have fall : ∀ v H' pl, Go q (m + 21) H H' → PlanV q.p H' v pl → Good 10 10 pl → pl.cs.length = 5 → Q v H' := fun v H' pl g hv gd cl => k v H' pl (g.mono (by omega)) hv (gd.mono (by omega) (by omega)) (by omega)
  refine ⟨fun σ' H' => σ' = [some (.ref q.p), some (.int most), some (.int d)] ∧ H1 = H', ?_, ?_⟩
  · refine ⟨_, rfl, rfl, _, rfl, ite2 (fun _ => ?_) (fun _ => iteF ⟨rfl, rfl⟩)⟩
    refine ⟨_, rfl, _, _, rfl, rfl, _, rfl, ite2 (fun _ => ?_) (fun _ => ⟨rfl, rfl⟩)⟩
    exact ⟨_, rfl, q, m + 1, 3, rfl, g1.pen, by omega, by decide, by decide, fun v H' pl g hv gd cl => fall v H' pl ((g1.trans g).mono (by omega)) hv gd cl⟩
  rintro _ _ ⟨rfl, rfl⟩
  refine ⟨fun σ' H' => σ' = [some (.ref q.p), some (.int most), some (.int d)] ∧ H1 = H', ?_, ?_⟩
  · refine ⟨_, rfl, rfl, _, rfl, ite2 (fun _ => ?_) (fun _ => iteF ⟨rfl, rfl⟩)⟩
    refine ⟨_, rfl, _, _, rfl, rfl, _, rfl, ite2 (fun _ => ?_) (fun _ => ⟨rfl, rfl⟩)⟩
    exact ⟨_, rfl, q, m + 1, 3, rfl, g1.pen, by omega, by decide, by decide, fun v H' pl g hv gd cl => fall v H' pl ((g1.trans g).mono (by omega)) hv gd cl⟩
  rintro _ _ ⟨rfl, rfl⟩
  refine ⟨_, rfl, _, rfl, q, m + 1, 4, rfl, by decide, by decide, g1.pen, by omega, fun c H2 c0 c1 g2 => ⟨_, _, rfl, rfl, _, rfl, szr, fun l H3 hl s3 h3 => ?_⟩⟩
  refine ⟨_, rfl, q, m + 2, 3, rfl, by decide, by decide, (g1.trans g2).pen.same s3, by omega, fun e H4 e0 e1 g4 => ?_⟩
  obtain ⟨v, hv, hv2⟩ := at3 (a := 2) (b := 3) (c := 8) e0 e1
  have nl := (g1.trans g2).pen.free hl
  refine ⟨l, _, _, _, rfl, rfl, .inl (g4.kp.lst nl.1 h3), hv, ?_⟩
  have g5 := (((g1.trans g2).same s3).trans g4)
  refine ⟨q, m + 3, 1 + c, most, v, rfl, g5.pen, by omega, by omega, by omega, o1, o2, by omega, by omega, fun v H' pl g hv gd cl => k v H' pl ((g5.trans g).mono (by omega)) hv (gd.mono (by omega) (by omega)) (by omega)⟩
end
end Af

set_option Elab.async false
set_option linter.all false
set_option maxRecDepth 100000
set_option maxHeartbeats 4000000
namespace Af
open PySem L2
abbrev s_law : Stmt := top 36
abbrev N_law : List Str := ["_law_script", "_law_pen_here", "_law_turn", "_law_plan_here", "_law_made", "_law_twin", "_law_other_here", "_law_other", "_law_due", "_law_thing"]
theorem sc_law : FnScope N_law ["_law_script"] (defScope s_law) := ⟨rfl, rfl, rfl, by decide +kernel, rfl, by decide +kernel, by decide +kernel⟩

def sp_law (K : PySem.W.Frag) : Sp := fun vs H Q _ => ∃ (a : Addr) (ns : List Int), vs = [.ref a] ∧ SqL K H a (ns.map V.int) ∧ ∀ H', Q (.bl true) H'
theorem first_own {K : PySem.W.Frag} {C : Addr} : PySem.W.notFirst K C (.ref C) = true := by
  unfold PySem.W.notFirst
  simp
section
variable {K : PySem.W.Frag} {mg : Str → Option Value} {C p : Addr} {H : Hp} {x y : V} {pl pl' : Pl} {n : String} {Q : VK}
theorem eq_ins (T : PlanC K mg C) (hx : PlanI p C H x pl) (hy : PlanI p C H y pl') (q : Q (.bl (samePl pl pl')) H) : rOwnEq K C (sp_eq K C) x y H Q := by
  obtain ⟨a, dx, _, _, fs, _, rfl, h1, _⟩ := hx.ex
  obtain ⟨b, dy, _, _, gs, _, rfl, g1, _⟩ := hy.ex
  exact ⟨a, dx, fs, _, rfl, h1, T.ty g1, first_own, p, _, _, pl, rfl, hx, .inl ⟨pl', hy, _, rfl, q⟩⟩
theorem ne_ins (T : PlanC K mg C) (hx : PlanI p C H x pl) (hy : PlanI p C H y pl') (q : Q (.bl (!samePl pl pl')) H) : rOwnNe K C (sp_eq K C) x y H Q := by
  obtain ⟨a, dx, _, _, fs, _, rfl, h1, _⟩ := hx.ex
  obtain ⟨b, dy, _, _, gs, _, rfl, g1, _⟩ := hy.ex
  exact ⟨a, dx, fs, _, rfl, h1, T.ty g1, first_own, p, _, _, pl, rfl, hx, .inl ⟨pl', hy, _, rfl, q⟩⟩
theorem eq_oth (T : PlanC K mg C) (hx : PlanI p C H x pl) (t : Ty K H y n) (q : Q (.bl false) H) : rOwnEq K C (sp_eq K C) x y H Q := by
  obtain ⟨a, dx, _, _, fs, _, rfl, h1, _⟩ := hx.ex
  exact ⟨a, dx, fs, _, rfl, h1, .base t.ty, T.first n t.mem, p, _, _, pl, rfl, hx, .inr ⟨n, t, _, rfl, q⟩⟩
theorem ne_oth (T : PlanC K mg C) (hx : PlanI p C H x pl) (t : Ty K H y n) (q : Q (.bl true) H) : rOwnNe K C (sp_eq K C) x y H Q := by
  obtain ⟨a, dx, _, _, fs, _, rfl, h1, _⟩ := hx.ex
  exact ⟨a, dx, fs, _, rfl, h1, .base t.ty, T.first n t.mem, p, _, _, pl, rfl, hx, .inr ⟨n, t, _, rfl, q⟩⟩
end
theorem ty_bl {K : PySem.W.Frag} {H : Hp} {b : Bool} : Ty K H (.bl b) "bool" := ⟨.bl b, by decide, fun _ _ _ e => by cases e⟩
theorem ty_int' {K : PySem.W.Frag} {H : Hp} {i : Int} : Ty K H (.int i) "int" := ⟨.int i, by decide, fun _ _ _ e => by cases e⟩
theorem ty_non {K : PySem.W.Frag} {H : Hp} : Ty K H .non "NoneType" := ⟨.non, by decide, fun _ _ _ e => by cases e⟩
theorem ty_str {K : PySem.W.Frag} {H : Hp} {z : Str} : Ty K H (.str z) "str" := ⟨.str z, by decide, fun _ _ _ e => by cases e⟩
theorem ty_tup' {K : PySem.W.Frag} {H : Hp} {a : Addr} {xs : List V} (e : H a = some (.tup xs)) : Ty K H (.ref a) "tuple" := ⟨.tup e, by decide, fun b o u z h => by cases z; rw [e] at h; cases h⟩
theorem ty_lst' {K : PySem.W.Frag} {H : Hp} {a : Addr} {xs : List V} (e : H a = some (.lst xs)) : Ty K H (.ref a) "list" := ⟨.lst e, by decide, fun b o u z h => by cases z; rw [e] at h; cases h⟩
theorem ty_dict' {K : PySem.W.Frag} {H : Hp} {a : Addr} {kvs : List (Key × V)} (e : H a = some (.dK kvs)) : Ty K H (.ref a) "dict" := ⟨.dK e, by decide, fun b o u z h => by cases z; rw [e] at h; cases h⟩
section
variable {P : Program} {w : World} {K : PySem.W.Frag} {mg : Str → Option Value} {base : Heap}
theorem ok_law {f C fE : Addr} {fd fdE : FuncData} (F : Fun K "law" "law" s_law f fd) (T : Txt mg) (TC : PlanC K mg C) (O : OwnEqC K C fE)
    (G_eq : FnOk P w K mg base CX0 1 fE fdE ["self", "other"] (sp_eq K C)) (b_eq : Binds K fdE ["self", "other"] [])
    (c_l_pen : Cal P w K mg base 1 "_law_pen" ["_law_script"] (sp_pen K)) (c_l_plan : Cal P w K mg base 5 "_law_plan" ["_law_pen_here", "_law_most"] sp_plan)
    (c_l_plan_of : Cal P w K mg base 8 "_law_plan_of" ["_law_plan_here"] (sp_plan_of C)) (c_l_beside : Cal P w K mg base 3 "_law_beside" ["_law_pen_here", "_law_plan_here"] sp_beside) :
    FnOk P w K mg base CX0 9 f fd ["_law_script"] (sp_law K) := by
  refine F.ok sc_law (fun vs H Q E h => ?_) (fun cdv A outer s H vs Q E hr h => ?_)
  · obtain ⟨_, _, rfl, _⟩ := h
    rfl
  obtain ⟨a, ns, rfl, ha, k⟩ := h
  refine ⟨_, (pss_cons (ps_set (i := 1) sc_law.nd rfl (Or.inl rfl) (pe_cal c_l_pen hr (pa_cons (pv 0) pa_nil)))
    (pss_cons (ps_for PassesOwn.never rfl (pi_range1 rfl T.range (pa_cons pe_int pa_nil)) (pg_name (i := 2) sc_law.nd rfl (Or.inl rfl))
      (pss_cons (ps_set (i := 3) sc_law.nd rfl (Or.inl rfl) (pe_cal c_l_plan hr (pa_cons (pv 1) (pa_cons pe_int pa_nil))))
    (pss_cons (ps_par (i := 4) (j := 5) rfl sc_law.nd rfl rfl (by decide) rfl rfl (pa_cons (pe_cal c_l_plan_of hr (pa_cons (pv 3) pa_nil)) (pa_cons (pe_cal c_l_plan_of hr (pa_cons (pv 3) pa_nil)) pa_nil)) (by rfl))
    (pss_cons (ps_cut (ps_if (PW.pt (pw_or (pt_not (pt_cmpR (op_ownEq O G_eq b_eq hr) (pv 4) (pv 5) (nomark _))) (pw_or (pt_cmpR (op_ownNe O G_eq b_eq hr) (pv 4) (pv 5) (nomark _)) (pw_or1 (pt_not (pt_cmpR (op_ownEq O G_eq b_eq hr) (pv 4) (pv 4) (nomark _)))))))
      (pss_one (ps_ret pe_bl))
      pss_nil))
    (pss_cons (ps_for PassesOwn.never rfl (pi_list (pe_cal c_l_beside hr (pa_cons (pv 1) (pa_cons (pv 3) pa_nil)))) (pg_name (i := 6) sc_law.nd rfl (Or.inl rfl))
      (pss_cons (ps_par (i := 7) (j := 8) rfl sc_law.nd rfl rfl (by decide) rfl rfl (pa_cons (pe_cal c_l_plan_of hr (pa_cons (pv 6) pa_nil)) (pa_cons (pe_cmpR (op_eqD hr.units) (pv 6) (pv 3) (nomark _)) pa_nil)) (by rfl))
    (pss_one (ps_if (PW.pt (pw_or (pt_cmpR op_ne (pe_cmpR (op_ownEq O G_eq b_eq hr) (pv 4) (pv 7) (nomark _)) (pv 8) (nomark _)) (pw_or (pt_cmpR op_ne (pe_cmpR (op_ownEq O G_eq b_eq hr) (pv 7) (pv 4) (nomark _)) (pv 8) (nomark _)) (pw_or1 (pt_cmpR op_eq (pe_cmpR (op_ownNe O G_eq b_eq hr) (pv 4) (pv 7) (nomark _)) (pv 8) (nomark _))))))
      (pss_one (ps_ret pe_bl))
      pss_nil))))
    (pss_one (ps_for PassesOwn.never rfl (pi_tup (pe_tup' (pa_cons pe_non (pa_cons pe_int (pa_cons pe_bl (pa_cons pe_str (pa_cons (pe_tup' pa_nil) (pa_cons (pe_lst' pa_nil) (pa_cons pe_dnewK (pa_cons (pv 3) (pa_cons (pe_callTy call_list' (by rfl) T.list (by decide +kernel) (pa_cons (pv 3) pa_nil)) (pa_cons (pe_ix ix_seq' (pv 3) pe_int (fun _ _ => rfl)) (pa_cons (pe_ix ix_seq' (pv 3) pe_int (fun _ _ => rfl)) pa_nil))))))))))))) (pg_name (i := 9) sc_law.nd rfl (Or.inl rfl))
      (pss_one (ps_if (PW.pt (pw_or (pt_cmpR (op_ownEq O G_eq b_eq hr) (pv 4) (pv 9) (nomark _)) (pw_or1 (pt_not (pt_cmpR (op_ownNe O G_eq b_eq hr) (pv 4) (pv 9) (nomark _))))))
      (pss_one (ps_ret pe_bl))
      pss_nil)))))))))
    (pss_one (ps_ret pe_bl)))), ?_⟩
  refine ⟨_, rfl, a, ns, rfl, ha, fun q H1 s1 nqp nqc pn1 => ⟨12, rfl, by decide, by decide, for_range (n := 12) (lo := 0) (fun i σ' H' => ∃ v2 v3 v4 v5 v6 v7 v8 v9, σ' = [some (.ref a), some (.ref q.p), v2, v3, v4, v5, v6, v7, v8, v9] ∧ Pen q (2101 * i) H') ?_ ?_ ?_⟩⟩
  · exact ⟨_, _, _, _, _, _, _, _, rfl, pn1⟩
  · rintro i σ' H2 hi ⟨v2, v3, v4, v5, v6, v7, v8, v9, rfl, pn2⟩
    refine ⟨_, rfl, ?_⟩

    refine ⟨q, _, 7, rfl, pn2, by omega, by decide, by decide, fun pv H3 pl g3 hv gd c5 => ?_⟩
    have gd' : Good 24 31 pl := gd.mono (by decide) (by decide)
    have g40 : Good 40 40 pl := gd.mono (by decide) (by decide)
    obtain ⟨l0, hl0⟩ := g3.pen.lst
    refine ⟨_, rfl, q.p, pv, pl, rfl, ⟨_, hl0⟩, hv, g40, fun x H4 s4 hx => ⟨_, rfl, q.p, pv, pl, rfl, ⟨_, s4 _ _ hl0⟩, hv.same s4, g40, fun y H5 s5 hy => ?_⟩⟩
    have hx5 := hx.kp (Kp.same s5)
    have hv5 := (hv.same s4).same s5
    have pn5 := (g3.pen.same s4).same s5
    refine ⟨_, _, rfl, ?_⟩
    refine ⟨fun σ' H' => σ' = [some (.ref a), some (.ref q.p), some (.int (0 + (i : Int))), some pv, some x, some y, v6, v7, v8, v9] ∧ H5 = H', ?_, ?_⟩
    · refine ⟨_, rfl, _, rfl, eq_ins TC hx5 hy ?_⟩
      rw [same_refl]
      refine ⟨_, rfl, iteF ⟨_, rfl, _, rfl, ne_ins TC hx5 hy ?_⟩⟩
      rw [same_refl]
      refine ⟨_, rfl, iteF ⟨_, rfl, _, rfl, eq_ins TC hx5 hx5 ?_⟩⟩
      rw [same_refl]
      exact ⟨_, rfl, iteF ⟨rfl, rfl⟩⟩
    rintro _ _ ⟨rfl, rfl⟩
    -- beside it
    refine ⟨_, rfl, _, rfl, q, _, pv, pl, rfl, pn5, by omega, hv5, gd', c5, fun l H6 us g6 nl hl ap ul => ⟨l, rfl, ⟨_, SqL.of hl⟩, for_list (K := K) (a := l) (xs := us) (fun j σ' H' => ∃ v6 v7 v8, σ' = [some (.ref a), some (.ref q.p), some (.int (0 + (i : Int))), some pv, some x, some y, v6, v7, v8, v9] ∧ Same H6 H') ?_ ?_ ?_ ?_⟩⟩
    · exact ⟨_, _, _, rfl, Same.refl _⟩
    · rintro j σ' H7 _ ⟨v6, v7, v8, rfl, s7⟩
      exact SqL.of (s7 _ _ hl)
    · rintro j u σ' H7 hu ⟨v6, v7, v8, rfl, s7⟩
      obtain ⟨pl', hv', gd''⟩ := ap u (List.mem_of_getElem? hu)
      obtain ⟨l6, hl6⟩ := g6.pen.lst
      refine ⟨_, rfl, q.p, u, pl', rfl, ⟨_, s7 _ _ hl6⟩, hv'.same s7, gd'', fun z H8 s8 hz => ⟨_, rfl, _, rfl, _, _, dp_plan ((hv'.same s7).same s8), dp_plan (((hv5.kp g6.kp).same s7).same s8), sh_plan _, sh_plan _, _, _, rfl, ?_⟩⟩
      have hx8 := ((hx5.kp g6.kp).kp (Kp.same (s7.trans s8)))
      rw [same_planD]
      obtain ⟨b, e1, e2⟩ : ∃ b, samePl pl' pl = b ∧ samePl pl pl' = b := ⟨_, rfl, same_comm pl pl'⟩
      rw [e1]
      cases b
      all_goals
        refine ⟨_, rfl, _, rfl, eq_ins TC hx8 hz ?_⟩
        rw [e2]
        refine ⟨_, rfl, rfl, _, rfl, iteF ?_⟩
        refine ⟨_, rfl, _, rfl, eq_ins TC hz hx8 ?_⟩
        rw [e1]
        refine ⟨_, rfl, rfl, _, rfl, iteF ?_⟩
        refine ⟨_, rfl, _, rfl, ne_ins TC hx8 hz ?_⟩
        rw [e2]
        refine ⟨_, rfl, rfl, _, rfl, iteF ?_⟩
        exact ⟨_, _, _, rfl, s7.trans s8⟩
    · rintro σ' H7 ⟨v6, v7, v8, rfl, s7⟩
      -- other things
      refine ⟨szr, fun e1 H8 _ t1 h1 => ⟨szr, fun e2 H9 _ t2 h2 => fun d hd => ?_⟩⟩
      have t3 := same_new (o := .dK []) hd
      have hd3 : (upd H9 d (.dK [])) d = some (.dK []) := upd_same
      generalize upd H9 d (.dK []) = H10 at t3 hd3
      have g10 := (((g6.same s7).same t1).same t2).same t3
      have hv10 := hv5.kp g10.kp
      obtain ⟨pa, ca, sa, xs, rfl, q1, q2, q3, q4, q5⟩ := hv10.ex
      refine ⟨_, rfl, _, rfl, pa, _, rfl, .inr q1, fun ll H11 _ t4 h4 => ?_⟩
      refine ⟨_, rfl, pa, _, _, _, rfl, rfl, .inr (t4 _ _ q1), rfl, _, rfl, pa, _, _, _, rfl, rfl, .inr (t4 _ _ q1), rfl, szr, fun tt H12 _ t5 h5 => ?_⟩
      have hx12 := hx5.kp (((g10.same t4).same t5).kp)
      have all : ∀ y ∈ [V.non, .int 0, .bl true, .str "", .ref e1, .ref e2, .ref d, .ref pa, .ref ll, .ref sa, .ref ca], ∃ n, Ty K H12 y n := by
        intro y hy
        simp only [List.mem_cons, List.not_mem_nil, or_false] at hy
        rcases hy with rfl | rfl | rfl | rfl | rfl | rfl | rfl | rfl | rfl | rfl | rfl
        · exact ⟨_, ty_non⟩
        · exact ⟨_, ty_int'⟩
        · exact ⟨_, ty_bl⟩
        · exact ⟨_, ty_str⟩
        · exact ⟨_, ty_tup' (t5 _ _ (t4 _ _ (t3 _ _ (t2 _ _ h1))))⟩
        · exact ⟨_, ty_lst' (t5 _ _ (t4 _ _ (t3 _ _ h2)))⟩
        · exact ⟨_, ty_dict' (t5 _ _ (t4 _ _ hd3))⟩
        · exact ⟨_, ty_tup' (t5 _ _ (t4 _ _ q1))⟩
        · exact ⟨_, ty_lst' (t5 _ _ h4)⟩
        · exact ⟨_, ty_lst' (t5 _ _ (t4 _ _ q4))⟩
        · exact ⟨_, ty_tup' (t5 _ _ (t4 _ _ q2))⟩
      refine ⟨tt, rfl, ⟨_, SqT.of h5⟩, for_tup (K := K) (a := tt) (xs := [V.non, .int 0, .bl true, .str "", .ref e1, .ref e2, .ref d, .ref pa, .ref ll, .ref sa, .ref ca]) (fun j σ' H' => H12 = H' ∧ ∃ v9, σ' = [some (.ref a), some (.ref q.p), some (.int (0 + (i : Int))), some (.ref pa), some x, some y, v6, v7, v8, v9]) ?_ ?_ ?_ ?_⟩
      · exact ⟨rfl, _, rfl⟩
      · rintro j σ' _ _ ⟨rfl, v9, rfl⟩
        exact SqT.of h5
      · rintro j u σ' _ hu ⟨rfl, v9, rfl⟩
        obtain ⟨n, ty⟩ := all u (List.mem_of_getElem? hu)
        refine ⟨_, rfl, _, rfl, eq_oth TC hx12 ty ⟨_, rfl, iteF ⟨_, rfl, _, rfl, ne_oth TC hx12 ty ⟨_, rfl, iteF ⟨rfl, _, rfl⟩⟩⟩⟩⟩
      · rintro σ' _ ⟨rfl, v9, rfl⟩
        exact ⟨_, _, _, _, _, _, _, _, rfl, (((g10.same t4).same t5).pen).mono (by omega)⟩
  · rintro σ' H2 ⟨v2, v3, v4, v5, v6, v7, v8, v9, rfl, pn2⟩
    exact k H2
end
end Af

set_option Elab.async false
set_option linter.all false
set_option maxRecDepth 100000
set_option maxHeartbeats 4000000
namespace Af
open PySem L2
def tyV : Value → Bool
  | .type _ => true
  | _ => false
theorem mro_ty : ∀ n ∈ tyNames, (fastBuiltinMro n).elim false (·.all tyV) = true := by decide +kernel
theorem sub_ty {K : PySem.W.Frag} {C : Addr} {n : String} (h : n ∈ tyNames) : PySem.W.subIn K (.type n) (.ref C) = some false := by
  have q := mro_ty n h
  show (fastBuiltinMro n).map (·.contains (.ref C)) = some false
  cases e : fastBuiltinMro n with
  | none =>
    rw [e] at q
    cases q
  | some l =>
    rw [e] at q
    show some (l.contains (.ref C)) = some false
    congr 1
    refine Bool.eq_false_iff.mpr fun z => ?_
    have m : Value.ref C ∈ l := by simpa using z
    have := List.all_eq_true.mp q _ m
    cases this
theorem first_not {K : PySem.W.Frag} {C : Addr} {n : String} (h : n ∈ tyNames) : PySem.W.notFirst K C (.type n) = true := by
  unfold PySem.W.notFirst
  rw [sub_ty h]
  simp
theorem is_own {K : PySem.W.Frag} {t : Value} : PySem.W.kitOne K t t = some true := by
  unfold PySem.W.kitOne
  rw [if_pos (by simp)]
theorem is_not {K : PySem.W.Frag} {C : Addr} {n : String} (h : n ∈ tyNames) (ic : PySem.W.isClsIn K C = true) (tc : PySem.W.typeIn K (.ref C) = some (.type "type")) : PySem.W.kitOne K (.type n) (.ref C) = some false := by
  unfold PySem.W.kitOne
  rw [if_neg (by simp)]
  show (if ((PySem.W.clsIn K C).isSome && PySem.W.typeIn K (.ref C) == some (.type "type")) = true then PySem.W.subIn K (.type n) (.ref C) else none) = some false
  rw [if_pos (by rw [tc, show (PySem.W.clsIn K C).isSome = true from ic]; simp)]
  exact sub_ty h
theorem all_mk {l : PySem.W.OpenLaw} {w : World} {K : PySem.W.Frag} {h : Heap} {mg : Str → Option Value} {fa C : Addr} (X : K.In h) (G : h.Ns mainGlobals mg) (hfa : mg "law" = some (.ref fa))
    {f1 : Addr} {od1 an1 : Option Addr} {sl1 : Array (Option Value)} {oc1 kV1 dc1 pm1 cd1 ct1 : Value}
    {f2 : Addr} {od2 an2 : Option Addr} {sl2 : Array (Option Value)} {oc2 kV2 dc2 pm2 cd2 ct2 : Value}
    {f3 : Addr} {od3 an3 : Option Addr} {sl3 : Array (Option Value)} {oc3 kV3 dc3 pm3 cd3 ct3 : Value}
    {f4 : Addr} {od4 an4 : Option Addr} {sl4 : Array (Option Value)} {oc4 kV4 dc4 pm4 cd4 ct4 : Value}
    {f5 : Addr} {od5 an5 : Option Addr} {sl5 : Array (Option Value)} {oc5 kV5 dc5 pm5 cd5 ct5 : Value}
    {f6 : Addr} {od6 an6 : Option Addr} {sl6 : Array (Option Value)} {oc6 kV6 dc6 pm6 cd6 ct6 : Value}
    {f7 : Addr} {od7 an7 : Option Addr} {sl7 : Array (Option Value)} {oc7 kV7 dc7 pm7 cd7 ct7 : Value}
    {f8 : Addr} {od8 an8 : Option Addr} {sl8 : Array (Option Value)} {oc8 kV8 dc8 pm8 cd8 ct8 : Value}
    {f9 : Addr} {od9 an9 : Option Addr} {sl9 : Array (Option Value)} {oc9 kV9 dc9 pm9 cd9 ct9 : Value}
    {f10 : Addr} {od10 an10 : Option Addr} {sl10 : Array (Option Value)} {oc10 kV10 dc10 pm10 cd10 ct10 : Value}
    {f11 : Addr} {od11 an11 : Option Addr} {sl11 : Array (Option Value)} {oc11 kV11 dc11 pm11 cd11 ct11 : Value}
    {f12 : Addr} {od12 an12 : Option Addr} {sl12 : Array (Option Value)} {oc12 kV12 dc12 pm12 cd12 ct12 : Value}
    {f13 : Addr} {od13 an13 : Option Addr} {sl13 : Array (Option Value)} {oc13 kV13 dc13 pm13 cd13 ct13 : Value}
    {f14 : Addr} {od14 an14 : Option Addr} {sl14 : Array (Option Value)} {oc14 kV14 dc14 pm14 cd14 ct14 : Value}
    {f15 : Addr} {od15 an15 : Option Addr} {sl15 : Array (Option Value)} {oc15 kV15 dc15 pm15 cd15 ct15 : Value}
    {f16 : Addr} {od16 an16 : Option Addr} {sl16 : Array (Option Value)} {oc16 kV16 dc16 pm16 cd16 ct16 : Value}
    {f17 : Addr} {od17 an17 : Option Addr} {sl17 : Array (Option Value)} {oc17 kV17 dc17 pm17 cd17 ct17 : Value}
    {f18 : Addr} {od18 an18 : Option Addr} {sl18 : Array (Option Value)} {oc18 kV18 dc18 pm18 cd18 ct18 : Value}
    {f19 : Addr} {od19 an19 : Option Addr} {sl19 : Array (Option Value)} {oc19 kV19 dc19 pm19 cd19 ct19 : Value}
    {f20 : Addr} {od20 an20 : Option Addr} {sl20 : Array (Option Value)} {oc20 kV20 dc20 pm20 cd20 ct20 : Value}
    {f21 : Addr} {od21 an21 : Option Addr} {sl21 : Array (Option Value)} {oc21 kV21 dc21 pm21 cd21 ct21 : Value}
    {f22 : Addr} {od22 an22 : Option Addr} {sl22 : Array (Option Value)} {oc22 kV22 dc22 pm22 cd22 ct22 : Value}
    {f23 : Addr} {od23 an23 : Option Addr} {sl23 : Array (Option Value)} {oc23 kV23 dc23 pm23 cd23 ct23 : Value}
    {f24 : Addr} {od24 an24 : Option Addr} {sl24 : Array (Option Value)} {oc24 kV24 dc24 pm24 cd24 ct24 : Value}
    {f25 : Addr} {od25 an25 : Option Addr} {sl25 : Array (Option Value)} {oc25 kV25 dc25 pm25 cd25 ct25 : Value}
    {f26 : Addr} {od26 an26 : Option Addr} {sl26 : Array (Option Value)} {oc26 kV26 dc26 pm26 cd26 ct26 : Value}
    {tk0 : Nat}
    {tk1 : Nat}
    {tk2 : Nat}
    {ta0 : Addr} {td0 : Option Addr} {ti0 : Array Value} {tn0 : Nat} {ts0 : Array (Option Value)}
    (a1 : PySem.W.nsIn K mainGlobals "is_integer" = some (some (.ref f1))) (l1 : K.lookup f1 = some ⟨oc1, od1, .func (PySem.W.fnOf "is_integer" "is_integer" (defArgs s_is_integer) (defBody s_is_integer) (defScope s_is_integer) .none kV1 dc1 pm1 an1 cd1 ct1), sl1⟩) (c1 : PySem.W.codeIn K cd1 "is_integer" = true) (k1 : PySem.W.keepIn K (.ref f1) = true)
    (a2 : PySem.W.nsIn K mainGlobals "is_index" = some (some (.ref f2))) (l2 : K.lookup f2 = some ⟨oc2, od2, .func (PySem.W.fnOf "is_index" "is_index" (defArgs s_is_index) (defBody s_is_index) (defScope s_is_index) .none kV2 dc2 pm2 an2 cd2 ct2), sl2⟩) (c2 : PySem.W.codeIn K cd2 "is_index" = true) (k2 : PySem.W.keepIn K (.ref f2) = true)
    (a3 : PySem.W.nsIn K mainGlobals "is_width" = some (some (.ref f3))) (l3 : K.lookup f3 = some ⟨oc3, od3, .func (PySem.W.fnOf "is_width" "is_width" (defArgs s_is_width) (defBody s_is_width) (defScope s_is_width) .none kV3 dc3 pm3 an3 cd3 ct3), sl3⟩) (c3 : PySem.W.codeIn K cd3 "is_width" = true) (k3 : PySem.W.keepIn K (.ref f3) = true)
    (a4 : PySem.W.nsIn K mainGlobals "are_worths" = some (some (.ref f4))) (l4 : K.lookup f4 = some ⟨oc4, od4, .func (PySem.W.fnOf "are_worths" "are_worths" (defArgs s_are_worths) (defBody s_are_worths) (defScope s_are_worths) .none kV4 dc4 pm4 an4 cd4 ct4), sl4⟩) (c4 : PySem.W.codeIn K cd4 "are_worths" = true) (k4 : PySem.W.keepIn K (.ref f4) = true)
    (a5 : PySem.W.nsIn K mainGlobals "is_content" = some (some (.ref f5))) (l5 : K.lookup f5 = some ⟨oc5, od5, .func (PySem.W.fnOf "is_content" "is_content" (defArgs s_is_content) (defBody s_is_content) (defScope s_is_content) .none kV5 dc5 pm5 an5 cd5 ct5), sl5⟩) (c5 : PySem.W.codeIn K cd5 "is_content" = true) (k5 : PySem.W.keepIn K (.ref f5) = true)
    (a6 : PySem.W.nsIn K mainGlobals "is_step" = some (some (.ref f6))) (l6 : K.lookup f6 = some ⟨oc6, od6, .func (PySem.W.fnOf "is_step" "is_step" (defArgs s_is_step) (defBody s_is_step) (defScope s_is_step) .none kV6 dc6 pm6 an6 cd6 ct6), sl6⟩) (c6 : PySem.W.codeIn K cd6 "is_step" = true) (k6 : PySem.W.keepIn K (.ref f6) = true)
    (a7 : PySem.W.nsIn K mainGlobals "_broken" = some (some (.ref f7))) (l7 : K.lookup f7 = some ⟨oc7, od7, .func (PySem.W.fnOf "_broken" "_broken" (defArgs s_broken) (defBody s_broken) (defScope s_broken) .none kV7 dc7 pm7 an7 cd7 ct7), sl7⟩) (c7 : PySem.W.codeIn K cd7 "_broken" = true) (k7 : PySem.W.keepIn K (.ref f7) = true)
    (a8 : PySem.W.nsIn K mainGlobals "_pieces_of" = some (some (.ref f8))) (l8 : K.lookup f8 = some ⟨oc8, od8, .func (PySem.W.fnOf "_pieces_of" "_pieces_of" (defArgs s_pieces_of) (defBody s_pieces_of) (defScope s_pieces_of) .none kV8 dc8 pm8 an8 cd8 ct8), sl8⟩) (c8 : PySem.W.codeIn K cd8 "_pieces_of" = true) (k8 : PySem.W.keepIn K (.ref f8) = true)
    (a9 : PySem.W.nsIn K mainGlobals "_epochs_of" = some (some (.ref f9))) (l9 : K.lookup f9 = some ⟨oc9, od9, .func (PySem.W.fnOf "_epochs_of" "_epochs_of" (defArgs s_epochs_of) (defBody s_epochs_of) (defScope s_epochs_of) .none kV9 dc9 pm9 an9 cd9 ct9), sl9⟩) (c9 : PySem.W.codeIn K cd9 "_epochs_of" = true) (k9 : PySem.W.keepIn K (.ref f9) = true)
    (a10 : PySem.W.nsIn K mainGlobals "is_room" = some (some (.ref f10))) (l10 : K.lookup f10 = some ⟨oc10, od10, .func (PySem.W.fnOf "is_room" "is_room" (defArgs s_is_room) (defBody s_is_room) (defScope s_is_room) .none kV10 dc10 pm10 an10 cd10 ct10), sl10⟩) (c10 : PySem.W.codeIn K cd10 "is_room" = true) (k10 : PySem.W.keepIn K (.ref f10) = true)
    (a11 : PySem.W.nsIn K mainGlobals "are_steps" = some (some (.ref f11))) (l11 : K.lookup f11 = some ⟨oc11, od11, .func (PySem.W.fnOf "are_steps" "are_steps" (defArgs s_are_steps) (defBody s_are_steps) (defScope s_are_steps) .none kV11 dc11 pm11 an11 cd11 ct11), sl11⟩) (c11 : PySem.W.codeIn K cd11 "are_steps" = true) (k11 : PySem.W.keepIn K (.ref f11) = true)
    (a12 : PySem.W.nsIn K mainGlobals "_law_pen" = some (some (.ref f12))) (l12 : K.lookup f12 = some ⟨oc12, od12, .func (PySem.W.fnOf "_law_pen" "_law_pen" (defArgs s_l_pen) (defBody s_l_pen) (defScope s_l_pen) .none kV12 dc12 pm12 an12 cd12 ct12), sl12⟩) (c12 : PySem.W.codeIn K cd12 "_law_pen" = true) (k12 : PySem.W.keepIn K (.ref f12) = true)
    (a13 : PySem.W.nsIn K mainGlobals "_law_next" = some (some (.ref f13))) (l13 : K.lookup f13 = some ⟨oc13, od13, .func (PySem.W.fnOf "_law_next" "_law_next" (defArgs s_l_next) (defBody s_l_next) (defScope s_l_next) .none kV13 dc13 pm13 an13 cd13 ct13), sl13⟩) (c13 : PySem.W.codeIn K cd13 "_law_next" = true) (k13 : PySem.W.keepIn K (.ref f13) = true)
    (a14 : PySem.W.nsIn K mainGlobals "_law_draw" = some (some (.ref f14))) (l14 : K.lookup f14 = some ⟨oc14, od14, .func (PySem.W.fnOf "_law_draw" "_law_draw" (defArgs s_l_draw) (defBody s_l_draw) (defScope s_l_draw) .none kV14 dc14 pm14 an14 cd14 ct14), sl14⟩) (c14 : PySem.W.codeIn K cd14 "_law_draw" = true) (k14 : PySem.W.keepIn K (.ref f14) = true)
    (a15 : PySem.W.nsIn K mainGlobals "_law_split" = some (some (.ref f15))) (l15 : K.lookup f15 = some ⟨oc15, od15, .func (PySem.W.fnOf "_law_split" "_law_split" (defArgs s_l_split) (defBody s_l_split) (defScope s_l_split) .none kV15 dc15 pm15 an15 cd15 ct15), sl15⟩) (c15 : PySem.W.codeIn K cd15 "_law_split" = true) (k15 : PySem.W.keepIn K (.ref f15) = true)
    (a16 : PySem.W.nsIn K mainGlobals "_law_parts" = some (some (.ref f16))) (l16 : K.lookup f16 = some ⟨oc16, od16, .func (PySem.W.fnOf "_law_parts" "_law_parts" (defArgs s_l_parts) (defBody s_l_parts) (defScope s_l_parts) .none kV16 dc16 pm16 an16 cd16 ct16), sl16⟩) (c16 : PySem.W.codeIn K cd16 "_law_parts" = true) (k16 : PySem.W.keepIn K (.ref f16) = true)
    (a17 : PySem.W.nsIn K mainGlobals "_law_write" = some (some (.ref f17))) (l17 : K.lookup f17 = some ⟨oc17, od17, .func (PySem.W.fnOf "_law_write" "_law_write" (defArgs s_l_write) (defBody s_l_write) (defScope s_l_write) .none kV17 dc17 pm17 an17 cd17 ct17), sl17⟩) (c17 : PySem.W.codeIn K cd17 "_law_write" = true) (k17 : PySem.W.keepIn K (.ref f17) = true)
    (a18 : PySem.W.nsIn K mainGlobals "_law_drawn" = some (some (.ref f18))) (l18 : K.lookup f18 = some ⟨oc18, od18, .func (PySem.W.fnOf "_law_drawn" "_law_drawn" (defArgs s_l_drawn) (defBody s_l_drawn) (defScope s_l_drawn) .none kV18 dc18 pm18 an18 cd18 ct18), sl18⟩) (c18 : PySem.W.codeIn K cd18 "_law_drawn" = true) (k18 : PySem.W.keepIn K (.ref f18) = true)
    (a19 : PySem.W.nsIn K mainGlobals "_law_log" = some (some (.ref f19))) (l19 : K.lookup f19 = some ⟨oc19, od19, .func (PySem.W.fnOf "_law_log" "_law_log" (defArgs s_l_log) (defBody s_l_log) (defScope s_l_log) .none kV19 dc19 pm19 an19 cd19 ct19), sl19⟩) (c19 : PySem.W.codeIn K cd19 "_law_log" = true) (k19 : PySem.W.keepIn K (.ref f19) = true)
    (a20 : PySem.W.nsIn K mainGlobals "_law_copy" = some (some (.ref f20))) (l20 : K.lookup f20 = some ⟨oc20, od20, .func (PySem.W.fnOf "_law_copy" "_law_copy" (defArgs s_l_copy) (defBody s_l_copy) (defScope s_l_copy) .none kV20 dc20 pm20 an20 cd20 ct20), sl20⟩) (c20 : PySem.W.codeIn K cd20 "_law_copy" = true) (k20 : PySem.W.keepIn K (.ref f20) = true)
    (a21 : PySem.W.nsIn K mainGlobals "_law_plan" = some (some (.ref f21))) (l21 : K.lookup f21 = some ⟨oc21, od21, .func (PySem.W.fnOf "_law_plan" "_law_plan" (defArgs s_l_plan) (defBody s_l_plan) (defScope s_l_plan) .none kV21 dc21 pm21 an21 cd21 ct21), sl21⟩) (c21 : PySem.W.codeIn K cd21 "_law_plan" = true) (k21 : PySem.W.keepIn K (.ref f21) = true)
    (a22 : PySem.W.nsIn K mainGlobals "_law_plan_of" = some (some (.ref f22))) (l22 : K.lookup f22 = some ⟨oc22, od22, .func (PySem.W.fnOf "_law_plan_of" "_law_plan_of" (defArgs s_l_plan_of) (defBody s_l_plan_of) (defScope s_l_plan_of) .none kV22 dc22 pm22 an22 cd22 ct22), sl22⟩) (c22 : PySem.W.codeIn K cd22 "_law_plan_of" = true) (k22 : PySem.W.keepIn K (.ref f22) = true)
    (a23 : PySem.W.nsIn K mainGlobals "_law_beside" = some (some (.ref f23))) (l23 : K.lookup f23 = some ⟨oc23, od23, .func (PySem.W.fnOf "_law_beside" "_law_beside" (defArgs s_l_beside) (defBody s_l_beside) (defScope s_l_beside) .none kV23 dc23 pm23 an23 cd23 ct23), sl23⟩) (c23 : PySem.W.codeIn K cd23 "_law_beside" = true) (k23 : PySem.W.keepIn K (.ref f23) = true)
    (a24 : PySem.W.nsIn K mainGlobals "law" = some (some (.ref f24))) (l24 : K.lookup f24 = some ⟨oc24, od24, .func (PySem.W.fnOf "law" "law" (defArgs s_law) (defBody s_law) (defScope s_law) .none kV24 dc24 pm24 an24 cd24 ct24), sl24⟩) (c24 : PySem.W.codeIn K cd24 "law" = true) (k24 : PySem.W.keepIn K (.ref f24) = true)
    (aC : PySem.W.nsIn K mainGlobals "Plan" = some (some (.ref C)))
    (a25 : PySem.W.findIn K (.ref C) "__init__" = some (some (.ref f25))) (i25 : PySem.W.isFn K (.ref f25) = true) (l25 : K.lookup f25 = some ⟨oc25, od25, .func (PySem.W.fnOf "__init__" "Plan.__init__" (defArgs s_Plan___init) (defBody s_Plan___init) (defScope s_Plan___init) .none kV25 dc25 pm25 an25 cd25 ct25), sl25⟩) (c25 : PySem.W.codeIn K cd25 "Plan.__init__" = true) (k25 : PySem.W.keepIn K (.ref f25) = true)
    (a26 : PySem.W.findIn K (.ref C) "__eq__" = some (some (.ref f26))) (i26 : PySem.W.isFn K (.ref f26) = true) (l26 : K.lookup f26 = some ⟨oc26, od26, .func (PySem.W.fnOf "__eq__" "Plan.__eq__" (defArgs s_Plan___eq) (defBody s_Plan___eq) (defScope s_Plan___eq) .none kV26 dc26 pm26 an26 cd26 ct26), sl26⟩) (c26 : PySem.W.codeIn K cd26 "Plan.__eq__" = true) (k26 : PySem.W.keepIn K (.ref f26) = true)
    (pg : PySem.W.plainGet K C Str.empty = true) (hd : PySem.W.hasDictIn K C = true) (po : PySem.W.plainOver K C = true) (sa : PySem.W.findIn K (.ref C) "__setattr__" = some (some (.builtin "object.__setattr__"))) (mk : PySem.W.makesIn K C = true) (kc : PySem.W.keepIn K (.ref C) = true)
    (ic : PySem.W.isClsIn K C = true) (tc : PySem.W.typeIn K (.ref C) = some (.type "type")) (ha : PySem.W.findIn K (.ref C) "__class__" = some (some (.builtin "object.__class__"))) (hn : PySem.W.specialIn K (.builtin "object.__class__") "__get__" = some (some (.builtin "getset_descriptor.__get__"))) (htk : PySem.W.takesIn K (.builtin "object.__class__") = some true) (hm : PySem.W.mroIn K C (.type "object") = some true) (hne : PySem.W.findIn K (.ref C) "__ne__" = some (some (.builtin "object.__ne__")))
    (n0 : PySem.W.findIn K (.ref C) "_base" = some none)
    (n1 : PySem.W.findIn K (.ref C) "_width" = some none)
    (n2 : PySem.W.findIn K (.ref C) "_steps" = some none)
    (n3 : PySem.W.findIn K (.ref C) "_pieces" = some none)
    (n4 : PySem.W.findIn K (.ref C) "_piece_epochs" = some none)
    (n5 : PySem.W.findIn K (.ref C) "_epochs" = some none)
    (z0 : PySem.W.nsIn K mainGlobals "len" = some none)
    (z1 : PySem.W.nsIn K mainGlobals "int" = some none)
    (z2 : PySem.W.nsIn K mainGlobals "list" = some none)
    (z3 : PySem.W.nsIn K mainGlobals "tuple" = some none)
    (z4 : PySem.W.nsIn K mainGlobals "range" = some none)
    (z5 : PySem.W.nsIn K mainGlobals "min" = some none)
    (z6 : PySem.W.nsIn K mainGlobals "all" = some none)
    (z7 : PySem.W.nsIn K mainGlobals "enumerate" = some none)
    (z8 : PySem.W.nsIn K mainGlobals "zip" = some none)
    (z9 : PySem.W.nsIn K mainGlobals "isinstance" = some none)
    (z10 : PySem.W.nsIn K mainGlobals "bool" = some none)
    (m0 : PySem.W.nsIn K mainGlobals "MOST_CELLS" = some (some (.int 24 tk0)))
    (m1 : PySem.W.nsIn K mainGlobals "MOST_STEPS" = some (some (.int 40 tk1)))
    (m2 : PySem.W.nsIn K mainGlobals "MOST_PIECES" = some (some (.int 40 tk2)))
    (u0 : PySem.W.nsIn K mainGlobals "ALL_WORTHS" = some (some (.ref ta0))) (w0 : K.lookup ta0 = some ⟨.type "tuple", td0, .seq ti0 tn0, ts0⟩) (x0 : ti0.size ≤ sizeLine) (y0 : Vals (ivs [0, 1, 2, 3, 4, 5, 6, 7]) ti0.toList) :
    ∃ fd : FuncData, (∀ (s : Shared) (v : Value), BindsTo s fd ⟨[v], []⟩ [("_law_script", v)]) ∧ ∀ base : Heap, K.In base → base.Ns mainGlobals mg → FnOk l.prog w K mg base CX0 9 fa fd ["_law_script"] (sp_law K) := by
  have e := hfa.symm.trans (PySem.W.mg_of X G a24)
  cases e
  have T : Txt mg := ⟨PySem.W.mg_none_of X G z0, PySem.W.mg_none_of X G z1, PySem.W.mg_none_of X G z2, PySem.W.mg_none_of X G z3, PySem.W.mg_none_of X G z4, PySem.W.mg_none_of X G z5, PySem.W.mg_none_of X G z6, PySem.W.mg_none_of X G z7, PySem.W.mg_none_of X G z8, PySem.W.mg_none_of X G z9, PySem.W.mg_none_of X G z10⟩
  have CK : Cst K mg := ⟨⟨_, PySem.W.mg_of X G m0⟩, ⟨_, PySem.W.mg_of X G m1⟩, ⟨_, PySem.W.mg_of X G m2⟩, ⟨_, PySem.W.mg_of X G u0, fun H => .inr ⟨_, ti0, tn0, w0, rfl, rfl, x0, y0⟩⟩⟩
  have TC : PlanC K mg C := ⟨⟨pg, hd, po, sa⟩, n0, n1, n2, n3, n4, n5, PySem.W.mg_of X G aC, is_own, fun n hn => is_not hn ic tc, fun n hn => first_not hn, ha, hn, htk, hm⟩
  have F25 := fun_mk (st := s_Plan___init) l25 c25 k25
  have b_Plan___init := F25.binds (ps := ["self", "base", "width", "steps"]) fun _ _ _ _ _ _ us hl => match us, hl with | [_, _, _, _], _ => rfl
  have F26 := fun_mk (st := s_Plan___eq) l26 c26 k26
  have b_Plan___eq := F26.binds (ps := ["self", "other"]) fun _ _ _ _ _ _ us hl => match us, hl with | [_, _], _ => rfl
  refine ⟨PySem.W.fnOf "law" "law" (defArgs s_law) (defBody s_law) (defScope s_law) .none kV24 dc24 pm24 an24 cd24 ct24, fun s v => .of_eq rfl, fun base _ _ => ?_⟩
  have F1 := fun_mk (st := s_is_integer) l1 c1 k1
  have c_is_integer : Cal l.prog w K mg base 1 "is_integer" ["thing"] (sp_is_integer K) := ⟨f1, _, ok_is_integer F1 T, PySem.W.mg_of X G a1, k1, F1.binds (ps := ["thing"]) fun _ _ _ _ _ _ us hl => match us, hl with | [_], _ => rfl⟩
  have F2 := fun_mk (st := s_is_index) l2 c2 k2
  have c_is_index : Cal l.prog w K mg base 2 "is_index" ["thing", "many"] (sp_is_index K) := ⟨f2, _, ok_is_index F2 T c_is_integer, PySem.W.mg_of X G a2, k2, F2.binds (ps := ["thing", "many"]) fun _ _ _ _ _ _ us hl => match us, hl with | [_, _], _ => rfl⟩
  have F3 := fun_mk (st := s_is_width) l3 c3 k3
  have c_is_width : Cal l.prog w K mg base 2 "is_width" ["thing"] (sp_is_width K) := ⟨f3, _, ok_is_width F3 T CK c_is_integer, PySem.W.mg_of X G a3, k3, F3.binds (ps := ["thing"]) fun _ _ _ _ _ _ us hl => match us, hl with | [_], _ => rfl⟩
  have F4 := fun_mk (st := s_are_worths) l4 c4 k4
  have c_are_worths : Cal l.prog w K mg base 3 "are_worths" ["thing"] (sp_are_worths K) := ⟨f4, _, ok_are_worths F4 T CK c_is_index, PySem.W.mg_of X G a4, k4, F4.binds (ps := ["thing"]) fun _ _ _ _ _ _ us hl => match us, hl with | [_], _ => rfl⟩
  have F5 := fun_mk (st := s_is_content) l5 c5 k5
  have c_is_content : Cal l.prog w K mg base 4 "is_content" ["thing"] (sp_is_content K) := ⟨f5, _, ok_is_content F5 T CK c_are_worths, PySem.W.mg_of X G a5, k5, F5.binds (ps := ["thing"]) fun _ _ _ _ _ _ us hl => match us, hl with | [_], _ => rfl⟩
  have F6 := fun_mk (st := s_is_step) l6 c6 k6
  have c_is_step : Cal l.prog w K mg base 4 "is_step" ["cells", "thing"] (sp_is_step K) := ⟨f6, _, ok_is_step F6 T c_is_index c_are_worths, PySem.W.mg_of X G a6, k6, F6.binds (ps := ["cells", "thing"]) fun _ _ _ _ _ _ us hl => match us, hl with | [_, _], _ => rfl⟩
  have F7 := fun_mk (st := s_broken) l7 c7 k7
  have c_broken : Cal l.prog w K mg base 1 "_broken" ["width", "index", "write"] sp_broken := ⟨f7, _, ok_broken F7 T, PySem.W.mg_of X G a7, k7, F7.binds (ps := ["width", "index", "write"]) fun _ _ _ _ _ _ us hl => match us, hl with | [_, _, _], _ => rfl⟩
  have F8 := fun_mk (st := s_pieces_of) l8 c8 k8
  have c_pieces_of : Cal l.prog w K mg base 2 "_pieces_of" ["width", "steps"] sp_pieces := ⟨f8, _, ok_pieces F8 T c_broken, PySem.W.mg_of X G a8, k8, F8.binds (ps := ["width", "steps"]) fun _ _ _ _ _ _ us hl => match us, hl with | [_, _], _ => rfl⟩
  have F9 := fun_mk (st := s_epochs_of) l9 c9 k9
  have c_epochs_of : Cal l.prog w K mg base 1 "_epochs_of" ["steps"] sp_epochs := ⟨f9, _, ok_epochs F9 T, PySem.W.mg_of X G a9, k9, F9.binds (ps := ["steps"]) fun _ _ _ _ _ _ us hl => match us, hl with | [_], _ => rfl⟩
  have F10 := fun_mk (st := s_is_room) l10 c10 k10
  have c_is_room : Cal l.prog w K mg base 3 "is_room" ["width", "steps"] sp_room := ⟨f10, _, ok_room F10 T CK c_pieces_of, PySem.W.mg_of X G a10, k10, F10.binds (ps := ["width", "steps"]) fun _ _ _ _ _ _ us hl => match us, hl with | [_, _], _ => rfl⟩
  have F11 := fun_mk (st := s_are_steps) l11 c11 k11
  have c_are_steps : Cal l.prog w K mg base 5 "are_steps" ["cells", "width", "thing"] (sp_are_steps K sp_room) := ⟨f11, _, ok_are_steps F11 T c_is_step c_is_room, PySem.W.mg_of X G a11, k11, F11.binds (ps := ["cells", "width", "thing"]) fun _ _ _ _ _ _ us hl => match us, hl with | [_, _, _], _ => rfl⟩
  have F12 := fun_mk (st := s_l_pen) l12 c12 k12
  have c_l_pen : Cal l.prog w K mg base 1 "_law_pen" ["_law_script"] (sp_pen K) := ⟨f12, _, ok_pen F12 T, PySem.W.mg_of X G a12, k12, F12.binds (ps := ["_law_script"]) fun _ _ _ _ _ _ us hl => match us, hl with | [_], _ => rfl⟩
  have F13 := fun_mk (st := s_l_next) l13 c13 k13
  have c_l_next : Cal l.prog w K mg base 1 "_law_next" ["_law_pen_here"] sp_next := ⟨f13, _, ok_next F13 T, PySem.W.mg_of X G a13, k13, F13.binds (ps := ["_law_pen_here"]) fun _ _ _ _ _ _ us hl => match us, hl with | [_], _ => rfl⟩
  have F14 := fun_mk (st := s_l_draw) l14 c14 k14
  have c_l_draw : Cal l.prog w K mg base 2 "_law_draw" ["_law_pen_here", "_law_under"] sp_draw := ⟨f14, _, ok_draw F14 T c_l_next, PySem.W.mg_of X G a14, k14, F14.binds (ps := ["_law_pen_here", "_law_under"]) fun _ _ _ _ _ _ us hl => match us, hl with | [_, _], _ => rfl⟩
  have F15 := fun_mk (st := s_l_split) l15 c15 k15
  have c_l_split : Cal l.prog w K mg base 1 "_law_split" ["_law_index", "_law_step_here", "_law_span_here"] sp_split := ⟨f15, _, ok_split F15 T, PySem.W.mg_of X G a15, k15, F15.binds (ps := ["_law_index", "_law_step_here", "_law_span_here"]) fun _ _ _ _ _ _ us hl => match us, hl with | [_, _, _], _ => rfl⟩
  have F16 := fun_mk (st := s_l_parts) l16 c16 k16
  have c_l_parts : Cal l.prog w K mg base 2 "_law_parts" ["_law_plan_here"] sp_parts := ⟨f16, _, ok_parts F16 T c_l_split, PySem.W.mg_of X G a16, k16, F16.binds (ps := ["_law_plan_here"]) fun _ _ _ _ _ _ us hl => match us, hl with | [_], _ => rfl⟩
  have F17 := fun_mk (st := s_l_write) l17 c17 k17
  have c_l_write : Cal l.prog w K mg base 3 "_law_write" ["_law_pen_here", "_law_many", "_law_kinds", "_law_longest_row"] sp_write := ⟨f17, _, ok_write F17 T c_l_draw, PySem.W.mg_of X G a17, k17, F17.binds (ps := ["_law_pen_here", "_law_many", "_law_kinds", "_law_longest_row"]) fun _ _ _ _ _ _ us hl => match us, hl with | [_, _, _, _], _ => rfl⟩
  have F18 := fun_mk (st := s_l_drawn) l18 c18 k18
  have c_l_drawn : Cal l.prog w K mg base 4 "_law_drawn" ["_law_pen_here", "_law_many", "_law_most", "_law_kinds"] sp_drawn := ⟨f18, _, ok_drawn F18 T c_l_draw c_l_parts c_l_write, PySem.W.mg_of X G a18, k18, F18.binds (ps := ["_law_pen_here", "_law_many", "_law_most", "_law_kinds"]) fun _ _ _ _ _ _ us hl => match us, hl with | [_, _, _, _], _ => rfl⟩
  have F19 := fun_mk (st := s_l_log) l19 c19 k19
  have c_l_log : Cal l.prog w K mg base 3 "_law_log" ["_law_pen_here", "_law_kinds"] sp_log := ⟨f19, _, ok_log F19 T c_l_draw, PySem.W.mg_of X G a19, k19, F19.binds (ps := ["_law_pen_here", "_law_kinds"]) fun _ _ _ _ _ _ us hl => match us, hl with | [_, _], _ => rfl⟩
  have F20 := fun_mk (st := s_l_copy) l20 c20 k20
  have c_l_copy : Cal l.prog w K mg base 3 "_law_copy" ["_law_pen_here", "_law_kinds"] sp_log := ⟨f20, _, ok_copy F20 T c_l_draw, PySem.W.mg_of X G a20, k20, F20.binds (ps := ["_law_pen_here", "_law_kinds"]) fun _ _ _ _ _ _ us hl => match us, hl with | [_, _], _ => rfl⟩
  have F21 := fun_mk (st := s_l_plan) l21 c21 k21
  have c_l_plan : Cal l.prog w K mg base 5 "_law_plan" ["_law_pen_here", "_law_most"] sp_plan := ⟨f21, _, ok_plan F21 T c_l_draw c_l_log c_l_copy c_l_drawn, PySem.W.mg_of X G a21, k21, F21.binds (ps := ["_law_pen_here", "_law_most"]) fun _ _ _ _ _ _ us hl => match us, hl with | [_, _], _ => rfl⟩
  have M_Plan : Mk K C f25 := ⟨mk, a25, i25, kc⟩
  have G_Plan : FnOk l.prog w K mg base CX0 6 f25 _ ["self", "base", "width", "steps"] (sp_init C) := ok_init F25 T TC c_is_content c_is_width c_are_steps c_epochs_of c_pieces_of
  have F22 := fun_mk (st := s_l_plan_of) l22 c22 k22
  have c_l_plan_of : Cal l.prog w K mg base 8 "_law_plan_of" ["_law_plan_here"] (sp_plan_of C) := ⟨f22, _, ok_plan_of F22 T TC M_Plan G_Plan b_Plan___init, PySem.W.mg_of X G a22, k22, F22.binds (ps := ["_law_plan_here"]) fun _ _ _ _ _ _ us hl => match us, hl with | [_], _ => rfl⟩
  have F23 := fun_mk (st := s_l_beside) l23 c23 k23
  have c_l_beside : Cal l.prog w K mg base 3 "_law_beside" ["_law_pen_here", "_law_plan_here"] sp_beside := ⟨f23, _, ok_beside F23 T c_l_draw, PySem.W.mg_of X G a23, k23, F23.binds (ps := ["_law_pen_here", "_law_plan_here"]) fun _ _ _ _ _ _ us hl => match us, hl with | [_, _], _ => rfl⟩
  have O : OwnEqC K C f26 := ⟨a26, i26, hne, hm⟩
  have G_eq : FnOk l.prog w K mg base CX0 1 f26 _ ["self", "other"] (sp_eq K C) := ok_eq F26 T TC
  exact ok_law (fun_mk (st := s_law) l24 c24 k24) T TC O G_eq b_Plan___eq c_l_pen c_l_plan c_l_plan_of c_l_beside
theorem walk {l : PySem.W.OpenLaw} {q : Program} {loose : List Str} {XP : (Str → Option Value) → Heap → Prop} {YP : World → Heap → Prop} {d : DefRec} {K : Params → PySem.W.Frag} (hn : l.most = some 63) (hdf : d.params.defaults = [])
    (hY : ∀ (w : World) (h : Heap), YP w h → (K w.params).In h)
    (F : ∀ (w : World) (mg : Str → Option Value) (fa : Addr) (h : Heap), (K w.params).In h → h.Ns mainGlobals mg → mg d.name = some (.ref fa) →
      ∃ fd : FuncData, (∀ (s : Shared) (u : Value), BindsTo s fd ⟨[u], []⟩ [("_law_script", u)]) ∧ ∀ base : Heap, (K w.params).In base → base.Ns mainGlobals mg → FnOk l.prog w (K w.params) mg base CX0 9 fa fd ["_law_script"] (sp_law (K w.params))) :
    PySem.W.WalkO q loose XP YP l.row.toRowW d [] (fun f vs => PySem.call f vs) :=
  L2.walk_of (n := 63) (k := 9) (x := "_law_script") (CX := fun _ => CX0) (sp := fun w => sp_law (K w.params)) hn (by decide) hdf ⟨rfl, by decide, by decide⟩ hY F (fun _ _ a ns hl _ hS => ⟨a, ns, rfl, hS, fun _ => rfl⟩) fun _ _ _ _ _ z => z
end Af

open PySem PySem.W PyProof.Rows in
set_option maxRecDepth 100000 in
set_option maxHeartbeats 0 in
theorem PySem.Challenge.cw_afterfall_k07_equal_plans_holds : PySem.Challenge.rw_afterfall_k07_equal_plans.Holds := by
  w_on; o_law; k_head; (case hw => w_witness2)
  k_fill
  refine Af.walk (l := PySem.Challenge.rw_afterfall_k07_equal_plans) rfl rfl (fun w h Y => PySem.W.kIn_of Y) ?F
  case F =>
    intro w mg fa h KX G hmg
    refine' Af.all_mk KX G hmg ?a1 ?l1 ?c1 ?k1 ?a2 ?l2 ?c2 ?k2 ?a3 ?l3 ?c3 ?k3 ?a4 ?l4 ?c4 ?k4 ?a5 ?l5 ?c5 ?k5 ?a6 ?l6 ?c6 ?k6 ?a7 ?l7 ?c7 ?k7 ?a8 ?l8 ?c8 ?k8 ?a9 ?l9 ?c9 ?k9 ?a10 ?l10 ?c10 ?k10 ?a11 ?l11 ?c11 ?k11 ?a12 ?l12 ?c12 ?k12 ?a13 ?l13 ?c13 ?k13 ?a14 ?l14 ?c14 ?k14 ?a15 ?l15 ?c15 ?k15 ?a16 ?l16 ?c16 ?k16 ?a17 ?l17 ?c17 ?k17 ?a18 ?l18 ?c18 ?k18 ?a19 ?l19 ?c19 ?k19 ?a20 ?l20 ?c20 ?k20 ?a21 ?l21 ?c21 ?k21 ?a22 ?l22 ?c22 ?k22 ?a23 ?l23 ?c23 ?k23 ?a24 ?l24 ?c24 ?k24 ?aC ?a25 ?i25 ?l25 ?c25 ?k25 ?a26 ?i26 ?l26 ?c26 ?k26 ?pg ?hd ?po ?sa ?mk ?kc ?ic ?tc ?ha ?hn ?htk ?hm ?hne ?n0 ?n1 ?n2 ?n3 ?n4 ?n5 ?z0 ?z1 ?z2 ?z3 ?z4 ?z5 ?z6 ?z7 ?z8 ?z9 ?z10 ?m0 ?m1 ?m2 ?u0 ?w0 ?x0 ?y0
    (case a1 => k_is)
    (case l1 => k_is)
    (case c1 => k_is)
    (case k1 => k_is)
    (case a2 => k_is)
    (case l2 => k_is)
    (case c2 => k_is)
    (case k2 => k_is)
    (case a3 => k_is)
    (case l3 => k_is)
    (case c3 => k_is)
    (case k3 => k_is)
    (case a4 => k_is)
    (case l4 => k_is)
    (case c4 => k_is)
    (case k4 => k_is)
    (case a5 => k_is)
    (case l5 => k_is)
    (case c5 => k_is)
    (case k5 => k_is)
    (case a6 => k_is)
    (case l6 => k_is)
    (case c6 => k_is)
    (case k6 => k_is)
    (case a7 => k_is)
    (case l7 => k_is)
    (case c7 => k_is)
    (case k7 => k_is)
    (case a8 => k_is)
    (case l8 => k_is)
    (case c8 => k_is)
    (case k8 => k_is)
    (case a9 => k_is)
    (case l9 => k_is)
    (case c9 => k_is)
    (case k9 => k_is)
    (case a10 => k_is)
    (case l10 => k_is)
    (case c10 => k_is)
    (case k10 => k_is)
    (case a11 => k_is)
    (case l11 => k_is)
    (case c11 => k_is)
    (case k11 => k_is)
    (case a12 => k_is)
    (case l12 => k_is)
    (case c12 => k_is)
    (case k12 => k_is)
    (case a13 => k_is)
    (case l13 => k_is)
    (case c13 => k_is)
    (case k13 => k_is)
    (case a14 => k_is)
    (case l14 => k_is)
    (case c14 => k_is)
    (case k14 => k_is)
    (case a15 => k_is)
    (case l15 => k_is)
    (case c15 => k_is)
    (case k15 => k_is)
    (case a16 => k_is)
    (case l16 => k_is)
    (case c16 => k_is)
    (case k16 => k_is)
    (case a17 => k_is)
    (case l17 => k_is)
    (case c17 => k_is)
    (case k17 => k_is)
    (case a18 => k_is)
    (case l18 => k_is)
    (case c18 => k_is)
    (case k18 => k_is)
    (case a19 => k_is)
    (case l19 => k_is)
    (case c19 => k_is)
    (case k19 => k_is)
    (case a20 => k_is)
    (case l20 => k_is)
    (case c20 => k_is)
    (case k20 => k_is)
    (case a21 => k_is)
    (case l21 => k_is)
    (case c21 => k_is)
    (case k21 => k_is)
    (case a22 => k_is)
    (case l22 => k_is)
    (case c22 => k_is)
    (case k22 => k_is)
    (case a23 => k_is)
    (case l23 => k_is)
    (case c23 => k_is)
    (case k23 => k_is)
    (case a24 => k_is)
    (case l24 => k_is)
    (case c24 => k_is)
    (case k24 => k_is)
    (case aC => k_is)
    (case a25 => k_is)
    (case i25 => k_is)
    (case l25 => k_is)
    (case c25 => k_is)
    (case k25 => k_is)
    (case a26 => k_is)
    (case i26 => k_is)
    (case l26 => k_is)
    (case c26 => k_is)
    (case k26 => k_is)
    (case pg => k_is)
    (case hd => k_is)
    (case po => k_is)
    (case sa => k_is)
    (case mk => k_is)
    (case kc => k_is)
    (case ic => k_is)
    (case tc => k_is)
    (case ha => k_is)
    (case hn => k_is)
    (case htk => k_is)
    (case hm => k_is)
    (case hne => k_is)
    (case n0 => k_is)
    (case n1 => k_is)
    (case n2 => k_is)
    (case n3 => k_is)
    (case n4 => k_is)
    (case n5 => k_is)
    (case z0 => k_is)
    (case z1 => k_is)
    (case z2 => k_is)
    (case z3 => k_is)
    (case z4 => k_is)
    (case z5 => k_is)
    (case z6 => k_is)
    (case z7 => k_is)
    (case z8 => k_is)
    (case z9 => k_is)
    (case z10 => k_is)
    (case m0 => k_is)
    (case m1 => k_is)
    (case m2 => k_is)
    (case u0 => k_is)
    (case w0 => k_is)
    (case x0 => decide)
    (case y0 => exact .cons ⟨_, rfl⟩ (.cons ⟨_, rfl⟩ (.cons ⟨_, rfl⟩ (.cons ⟨_, rfl⟩ (.cons ⟨_, rfl⟩ (.cons ⟨_, rfl⟩ (.cons ⟨_, rfl⟩ (.cons ⟨_, rfl⟩ .nil))))))))

