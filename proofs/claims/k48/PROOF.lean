import PyProof.Rows.All
import Wide.All
import OpenK.AllK
import Wide.FinOn
import HandS.ForMost
import HandS.ForExc
import HandS.TupAny
import HandS.TupMul
import HandS.Style
import HandS.OwnEq
import HandS.IsInst
import HandS.Zip
import KE.DataFind
import PyProof.ReprRoads
import PyProof.ReprLen
import HandS.ExcIs
import HandS.ExcValue
import HandS.Property
import HandS.DictComp
import HandS.SortRule
import KE.GoesNew
import HandS.Iter
import HandS.Conv
import PySem.Challenge.RW_afterfall_k48_errors_of_makers
set_option Elab.async false
set_option linter.all false
set_option maxRecDepth 100000
namespace Af
open PySem L2

/-! heaps -/
theorem same_new {H : Hp} {p : Addr} {o : HO} (h : H p = none) : Same H (upd H p o) := fun b u e => by
  rw [upd_ne (ne_of_none e h)]
  exact e
theorem nofree {H : Hp} {p q : Addr} {o : HO} (h : H p = some o) (h' : H q = none) : q ≠ p := fun e => by
  rw [e, h] at h'
  cases h'

/-- a new object o -/
def New (o : HO) (H : Hp) (Q : VK) : Prop := ∀ (p : Addr) (H' : Hp), H p = none → Same H H' → H' p = some o → Q (.ref p) H'
theorem New.mk {o : HO} {H : Hp} {Q : VK} (h : New o H Q) : ∀ p, H p = none → Q (.ref p) (upd H p o) := fun p hp => h p _ hp (same_new hp) upd_same
/-- a tuple of xs, new or not -/
def NewT (xs : List V) (H : Hp) (Q : VK) : Prop := ∀ (p : Addr) (H' : Hp), Same H H' → H' p = some (.tup xs) → Q (.ref p) H'

theorem pe_imp {X : Cx} {e : Expr} {t t' : TE} (h : PE X e t) (i : ∀ σ H Q, t' σ H Q → t σ H Q) : PE X e t' := ⟨fun pins s σ H Q I q => h.run pins s σ H Q I (i σ H Q q)⟩
theorem op_imp {X : Cx} {f : Value → Value → Sem Value} {r r' : R2} (h : OpR X f r) (i : ∀ x y H Q, r' x y H Q → r x y H Q) : OpR X f r' :=
  fun pins s σ H x y v u Q I rx ry q => h pins s σ H x y v u Q I rx ry (i x y H Q q)
theorem call_imp {X : Cx} {f : Value} {r r' : List V → Hp → VK → Prop} (h : CallR X f r) (i : ∀ xs H Q, r' xs H Q → r xs H Q) : CallR X f r' :=
  fun pins s σ H xs us Q I rs q => h pins s σ H xs us Q I rs (i xs H Q q)

/-! displays -/
def tTup' (t : TA) : TE := fun σ H Q => t σ H fun xs H1 => xs.length ≤ sizeLine ∧ New (.tup xs) H1 Q
def tLst' (t : TA) : TE := fun σ H Q => t σ H fun xs H1 => xs.length ≤ sizeLine ∧ New (.lst xs) H1 Q
section
variable {X : Cx} {e : Expr} {es : List Expr} {te : TE} {t : TA} {pos : Pos}
theorem pe_tup' {x1 : Nat} (h : PA X es t) : PE X (.Tuple es x1 pos) (tTup' t) := ⟨fun pins s σ H Q I hq =>
  wpAny_Tuple_spliced (thn (h.run pos pins s σ H _ I hq) fun us s1 z => by
    obtain ⟨xs, H1, I1, r, z, q⟩ := z
    refine ⟨by rw [← r.length]; exact z, ?_⟩
    have hf := I1.fresh
    exact ⟨.ref s1.heap.objs.size, upd H1 s1.heap.objs.size (.tup xs),
      I1.laid (t' := s1.toks) (fun b u e => Heap.get?_push_of_some _ e) (Nat.le_refl _) ⟨z, us, r, ⟨_, Heap.get?_push_size _ rfl, rfl, _, rfl⟩⟩, rfl, q.mk _ hf⟩)⟩
theorem pe_lst' (h : PA X es t) : PE X (.List es pos) (tLst' t) := ⟨fun pins s σ H Q I hq =>
  wpAny_List_spliced (thn (h.run pos pins s σ H _ I hq) fun us s1 z => by
    obtain ⟨xs, H1, I1, r, z, q⟩ := z
    refine ⟨by rw [← r.length]; exact z, ?_⟩
    have hf := I1.fresh
    exact ⟨.ref s1.heap.objs.size, upd H1 s1.heap.objs.size (.lst xs),
      I1.laid (t' := s1.toks) (fun b u e => Heap.get?_push_of_some _ e) (Nat.le_refl _) ⟨z, us, 0, r, Heap.get?_push_size _ rfl⟩, rfl, q.mk _ hf⟩)⟩

/-! lists and tuples -/
def rCat' : R2 := fun x y H Q => ∃ l b xs zs, x = .ref l ∧ y = .ref b ∧ H l = some (.lst xs) ∧ H b = some (.lst zs) ∧ xs.length + zs.length ≤ sizeLine ∧ New (.lst (xs ++ zs)) H Q
theorem op_cat' : OpR X (binaryOp .Add) rCat' := op_imp op_cat fun x y H Q h => by
  obtain ⟨l, b, xs, zs, h1, h2, h3, h4, h5, q⟩ := h
  exact ⟨l, b, xs, zs, h1, h2, h3, h4, h5, q.mk⟩
def rCatT' : R2 := fun x y H Q => ∃ a b xs ys, x = .ref a ∧ y = .ref b ∧ H a = some (.tup xs) ∧ H b = some (.tup ys) ∧ xs.length + ys.length ≤ sizeLine ∧ NewT (xs ++ ys) H Q
theorem op_catT' : OpR X (binaryOp .Add) rCatT' := op_imp op_catA fun x y H Q h => by
  obtain ⟨a, b, xs, ys, h1, h2, h3, h4, h5, q⟩ := h
  refine ⟨a, b, xs, ys, h1, h2, SqT.of h3, SqT.of h4, h5, fun e => ?_, fun _ e => ?_, fun _ _ p hp => q p _ (same_new hp) upd_same⟩
  · subst e
    exact q b H (Same.refl H) h4
  · subst e
    exact q a H (Same.refl H) (by rw [List.append_nil]; exact h3)
def rRep' : R2 := fun x y H Q => ∃ l k xs, x = .ref l ∧ y = .int k ∧ H l = some (.lst xs) ∧ 0 ≤ k ∧ k ≤ 1000 ∧ xs.length * k.toNat ≤ sizeLine ∧ New (.lst (List.replicate k.toNat xs).flatten) H Q
theorem op_rep' : OpR X (binaryOp .Mult) rRep' := op_imp op_rep fun x y H Q h => by
  obtain ⟨l, k, xs, h1, h2, h3, h4, h5, h6, q⟩ := h
  exact ⟨l, k, xs, h1, h2, h3, by omega, by omega, h6, q.mk⟩
theorem sl_imp {r r' : V → Option Int → Option Int → Hp → VK → Prop} (h : SlR X r) (i : ∀ x lo hi H Q, r' x lo hi H Q → r x lo hi H Q) : SlR X r' :=
  fun pins s σ H x v vl vu lo hi sl Q I rx hs pl pu q => h pins s σ H x v vl vu lo hi sl Q I rx hs pl pu (i x lo hi H Q q)
def rSlL' : V → Option Int → Option Int → Hp → VK → Prop := fun x lo hi H Q => ∃ a xs, x = .ref a ∧ H a = some (.lst xs) ∧ New (.lst (cutV xs lo hi)) H Q
theorem sl_list' : SlR X rSlL' := sl_imp sl_list fun x lo hi H Q h => by
  obtain ⟨a, xs, h1, h2, q⟩ := h
  exact ⟨a, xs, h1, SqL.of h2, q.mk⟩
theorem cut_all {xs : List V} {lo hi : Option Int} (h : HT.sIx xs.length 0 lo = 0 ∧ HT.sIx xs.length xs.length hi = xs.length) : cutV xs lo hi = xs := by
  unfold cutV
  rw [h.1, h.2]
  simp
def rSlT' : V → Option Int → Option Int → Hp → VK → Prop := fun x lo hi H Q => ∃ a xs, x = .ref a ∧ H a = some (.tup xs) ∧ NewT (cutV xs lo hi) H Q
theorem sl_tup' : SlR X rSlT' := sl_imp sl_tupA fun x lo hi H Q h => by
  obtain ⟨a, xs, h1, h2, q⟩ := h
  refine ⟨a, xs, h1, SqT.of h2, fun w => ?_, fun _ p hp => q p _ (same_new hp) upd_same⟩
  exact q a H (Same.refl H) (by rw [cut_all w]; exact h2)
def Sq (H : Hp) (p : Addr) (ys : List V) : Prop := H p = some (.lst ys) ∨ H p = some (.tup ys)
theorem Sq.or {K : PySem.W.Frag} {H : Hp} {p : Addr} {ys : List V} (h : Sq H p ys) : SqL K H p ys ∨ SqT K H p ys := h.elim (fun h => .inl (SqL.of h)) fun h => .inr (SqT.of h)
def rList' : List V → Hp → VK → Prop := fun xs H Q => ∃ p ys, xs = [.ref p] ∧ Sq H p ys ∧ New (.lst ys) H Q
theorem call_list' : CallR X (.type "list") rList' := call_imp call_list_of fun xs H Q h => by
  obtain ⟨p, ys, h1, h2, q⟩ := h
  exact ⟨p, ys, h1, h2.or, q.mk⟩
def rTuple' : List V → Hp → VK → Prop := fun xs H Q => ∃ p ys, xs = [.ref p] ∧ Sq H p ys ∧ NewT ys H Q
theorem call_tuple' : CallR X (.type "tuple") rTuple' := call_imp call_tuple_of fun xs H Q h => by
  obtain ⟨p, ys, h1, h2, q⟩ := h
  rcases h2 with h2 | h2
  · exact ⟨p, ys, h1, .inl ⟨SqL.of h2, fun l hl => q l _ (same_new hl) upd_same⟩⟩
  · exact ⟨p, ys, h1, .inr ⟨SqT.of h2, q p H (Same.refl H) h2⟩⟩
def rLen' : List V → Hp → VK → Prop := fun xs H Q => ∃ p ys, xs = [.ref p] ∧ Sq H p ys ∧ Q (.int ys.length) H
theorem call_len' : CallR X (.builtin "len") rLen' := call_imp call_len_seq fun xs H Q h => by
  obtain ⟨p, ys, h1, h2, q⟩ := h
  exact ⟨p, ys, h1, h2.or, q⟩
def rLenK (K : PySem.W.Frag) : List V → Hp → VK → Prop := fun xs H Q => ∃ p ys, xs = [.ref p] ∧ (SqL K H p ys ∨ SqT K H p ys) ∧ Q (.int ys.length) H
theorem call_lenK : CallR X (.builtin "len") (rLenK X.K) := call_len_seq
theorem ix_imp {r r' : R2} (h : IxR X r) (i : ∀ x y H Q, r' x y H Q → r x y H Q) : IxR X r' :=
  fun value slice pins s σ H x y v u Q I rx ry q hs => h value slice pins s σ H x y v u Q I rx ry (i x y H Q q) hs
def rIx' : R2 := fun x y H Q => ∃ p xs i v, x = .ref p ∧ y = .int i ∧ Sq H p xs ∧ atI xs i = some v ∧ Q v H
theorem ix_seq' : IxR X rIx' := ix_imp (ix_list.or ix_tup) fun x y H Q h => by
  obtain ⟨p, xs, i, v, h1, h2, h3, h4, q⟩ := h
  rcases h3 with h3 | h3
  · exact .inl ⟨p, xs, i, v, h1, h2, SqL.of h3, h4, q⟩
  · exact .inr ⟨p, xs, i, v, h1, h2, SqT.of h3, h4, q⟩
/-- xs[::-1] -/
def tRev' (te : TE) : TE := fun σ H Q => te σ H fun x H1 => ∃ a xs, x = .ref a ∧ H1 a = some (.lst xs) ∧ New (.lst xs.reverse) H1 Q
end

/-! a def of the text, called -/
structure Cal (P : Program) (w : World) (K : PySem.W.Frag) (mg : Str → Option Value) (base : Heap) (k : Nat) (x : Str) (ps : List Str) (sp : Sp) : Prop where
  ex : ∃ (f : Addr) (fd : FuncData), FnOk P w K mg base CX0 k f fd ps sp ∧ mg x = some (.ref f) ∧ PySem.W.keepIn K (.ref f) = true ∧ Binds K fd ps []
def tCal (sp : Sp) (t : TA) : TE := fun σ H Q => t σ H fun vs H1 => sp vs H1 Q E0
section
variable {X : Cx} {k j : Nat} {x : Str} {ps : List Str} {sp : Sp} {e : Expr} {es : List Expr} {t : TA} {p pos : Pos}
theorem pe_cal (c : Cal X.prog X.w X.K X.mg X.base k x ps sp) (hr : Room j X.A) (ha : PA X (e :: es) t) (hkj : k ≤ j := by decide) (hg : Gl X x := by rfl) (hdb : (x == ("__debug__" : Str)) = false := by decide)
    (he : starEach (e :: es) X.env = (false, eval e X.env) :: starEach es X.env := by rfl) (hpl : (backTo pos (starEach es X.env)).any (·.1) = false := by rfl) :
    PE X (.Call (.Name x p) (e :: es) [] pos) (tCal sp t) := by
  obtain ⟨f, fd, G, m, kp, b⟩ := c.ex
  have := pe_call (pos := pos) (p := p) G (hr.mono hkj) hg m kp b .nil pass0 ha hdb he hpl
  refine ⟨fun pins s σ H Q I h => this.run pins s σ H Q I ?_⟩
  have e1 : tCal sp t = tCall sp [] E0 t := by
    funext σ H Q
    unfold tCal tCall
    simp only [List.append_nil]
  rw [← e1]
  exact h
theorem pe_cal0 (c : Cal X.prog X.w X.K X.mg X.base k x ps sp) (hr : Room j X.A) (hkj : k ≤ j := by decide) (hg : Gl X x := by rfl) (hdb : (x == ("__debug__" : Str)) = false := by decide) :
    PE X (.Call (.Name x p) [] [] pos) (tCal sp tNil) := by
  obtain ⟨f, fd, G, m, kp, b⟩ := c.ex
  exact pe_call0 (pos := pos) (p := p) G (hr.mono hkj) hg m kp b .nil pass0 hdb
end

/-! ways that meet again behind a statement: J tells where -/
def tCut (t : TS) : TS := fun D σ H => ∃ J : L2.St → Hp → Prop, t { D with nx := J } σ H ∧ ∀ σ' H', J σ' H' → D.nx σ' H'
theorem ps_cut {X : Cx} {st : Stmt} {t : TS} (h : PS X st t) : PS X st (tCut t) := ⟨fun pins s σ H D I q => by
  obtain ⟨J, q1, q2⟩ := q
  refine thn (h.run pins s σ H { D with nx := J } I q1) fun f s1 z => ?_
  cases f with
  | next =>
    obtain ⟨σ', H', I', z⟩ := z
    exact ⟨σ', H', I', q2 σ' H' z⟩
  | ret v => exact z
  | brk => exact z
  | cont => exact z⟩

/-! the pen: its list, its cells' list, the cells; how often it was asked (at most m), what is left -/
structure Pn where
  p : Addr
  c : Addr
  ns : List Int
structure Pen (q : Pn) (m : Nat) (H : Hp) : Prop where
  ex : ∃ (i n : Int), H q.p = some (.lst [.ref q.c, .int i, .int n]) ∧ H q.c = some (.lst (q.ns.map V.int)) ∧ q.c ≠ q.p ∧ 0 ≤ i ∧ i ≤ (m : Int) ∧ 0 ≤ n
theorem Pen.same {q : Pn} {m : Nat} {H H' : Hp} (h : Pen q m H) (s : Same H H') : Pen q m H' := by
  obtain ⟨i, n, h1, h2, h3⟩ := h.ex
  exact ⟨i, n, s _ _ h1, s _ _ h2, h3⟩
theorem Pen.mono {q : Pn} {m m' : Nat} {H : Hp} (h : Pen q m H) (l : m ≤ m') : Pen q m' H := by
  obtain ⟨i, n, h1, h2, h3, h4, h5, h6⟩ := h.ex
  exact ⟨i, n, h1, h2, h3, h4, by omega, h6⟩
theorem Pen.lst {q : Pn} {m : Nat} {H : Hp} (h : Pen q m H) : ∃ l, H q.p = some (.lst l) := by
  obtain ⟨i, n, h1, _⟩ := h.ex
  exact ⟨_, h1⟩
theorem Pen.free {q : Pn} {m : Nat} {H : Hp} {a : Addr} (h : Pen q m H) (e : H a = none) : a ≠ q.p ∧ a ≠ q.c := by
  obtain ⟨i, n, h1, h2, _⟩ := h.ex
  refine ⟨fun z => ?_, fun z => ?_⟩
  · rw [z, h1] at e
    cases e
  · rw [z, h2] at e
    cases e
/-- an object that is not the pen's is changed -/
theorem Pen.upd {q : Pn} {m : Nat} {H : Hp} {a : Addr} {o : HO} (h : Pen q m H) (n : a ≠ q.p ∧ a ≠ q.c) : Pen q m (upd H a o) := by
  obtain ⟨i, r, h1, h2, h3⟩ := h.ex
  exact ⟨i, r, by rw [upd_ne n.1.symm]; exact h1, by rw [upd_ne n.2.symm]; exact h2, h3⟩
/-- what stands but for the list at p stands -/
def Kp (p : Addr) (H H' : Hp) : Prop := ∀ a o, (a ≠ p ∨ ∀ l, o ≠ HO.lst l) → H a = some o → H' a = some o
theorem Kp.refl {p : Addr} {H : Hp} : Kp p H H := fun _ _ _ h => h
theorem Kp.trans {p : Addr} {H H1 H2 : Hp} (a : Kp p H H1) (b : Kp p H1 H2) : Kp p H H2 := fun c o n h => b c o n (a c o n h)
theorem Kp.same {p : Addr} {H H' : Hp} (s : Same H H') : Kp p H H' := fun a o _ h => s a o h
theorem Kp.tup {p a : Addr} {H H' : Hp} {xs : List V} (k : Kp p H H') (h : H a = some (.tup xs)) : H' a = some (.tup xs) := k a _ (.inr fun l z => by cases z) h
theorem Kp.lst {p a : Addr} {H H' : Hp} {xs : List V} (k : Kp p H H') (n : a ≠ p) (h : H a = some (.lst xs)) : H' a = some (.lst xs) := k a _ (.inl n) h
theorem Kp.ins {p a C dx : Addr} {H H' : Hp} {fs : List (Str × V)} (k : Kp p H H') (h : H a = some (.ins C dx fs)) : H' a = some (.ins C dx fs) := k a _ (.inr fun l z => by cases z) h
/-- what a call with the pen leaves: all but the pen as it was, a pen again -/
structure Go (q : Pn) (m : Nat) (H H' : Hp) : Prop where
  kp : Kp q.p H H'
  pen : Pen q m H'
theorem Go.refl {q : Pn} {m : Nat} {H : Hp} (h : Pen q m H) : Go q m H H := ⟨Kp.refl, h⟩
theorem Go.trans {q : Pn} {m m' : Nat} {H H1 H2 : Hp} (a : Go q m H H1) (b : Go q m' H1 H2) : Go q m' H H2 := ⟨a.kp.trans b.kp, b.pen⟩
theorem Go.mono {q : Pn} {m m' : Nat} {H H' : Hp} (a : Go q m H H') (l : m ≤ m') : Go q m' H H' := ⟨a.kp, a.pen.mono l⟩
theorem Go.same {q : Pn} {m : Nat} {H H1 H2 : Hp} (a : Go q m H H1) (s : Same H1 H2) : Go q m H H2 := ⟨a.kp.trans (Kp.same s), a.pen.same s⟩
theorem Go.of {q : Pn} {m : Nat} {H H1 : Hp} (h : Pen q m H) (s : Same H H1) : Go q m H H1 := ⟨Kp.same s, h.same s⟩
/-- the pen's own list is stored into -/
theorem Go.at_ {q : Pn} {m m' : Nat} {H : Hp} {l : List V} (h : Pen q m H) (e : Pen q m' (L2.upd H q.p (.lst l))) : Go q m' H (L2.upd H q.p (.lst l)) := ⟨fun a o n k => by
  by_cases z : a = q.p
  · obtain ⟨l', e'⟩ := h.lst
    rcases n with n | n
    · exact absurd z n
    · rw [z, e'] at k
      exact absurd (Option.some.inj k).symm (n l')
  · rw [upd_ne z]
    exact k, e⟩
/-- a list that is new since H is changed -/
theorem Go.mut {q : Pn} {m : Nat} {H H' : Hp} {D : Addr} {o : HO} (h : Pen q m H) (hD : H D = none) {m' : Nat} (g : Go q m' H H') : Go q m' H (L2.upd H' D o) :=
  ⟨fun a u n e => by rw [upd_ne (ne_of_none e hD)]; exact g.kp a u n e, g.pen.upd (h.free hD)⟩
theorem Go.none {q : Pn} {m m' : Nat} {H H' : Hp} {a : Addr} (g : Go q m H H') (h : Pen q m' H) (e : H' a = none) : H a = none := by
  have z := (g.pen.free e).1
  cases k : H a with
  | none => rfl
  | some o =>
    rw [g.kp a o (.inl z) k] at e
    cases e
theorem sz {n : Nat} (h : n ≤ 100000) : n ≤ sizeLine := Nat.le_trans h (by decide)
theorem szr {n : Nat} (h : Nat.ble n 100000 = true := by rfl) : n ≤ sizeLine := sz (Nat.le_of_ble_eq_true h)
theorem szl {n : Nat} (h : n < 100000) : n < sizeLine := Nat.lt_of_lt_of_le h (by decide)

/-! data -/
def ivs (ns : List Int) : List V := ns.map V.int
def dvs (ns : List Int) : List PyData := ns.map PyData.int
theorem dp_ints {K : PySem.W.Frag} {H : Hp} : ∀ ns : List Int, DpAll K H (ivs ns) (dvs ns)
  | [] => .nil
  | n :: ns => .cons (.int n) (dp_ints ns)
theorem lay_ints : ∀ ns : List Int, PyData.canLayAll0 (dvs ns) = true
  | [] => rfl
  | n :: ns => by
    show (PyData.canLay0 (.int n) && PyData.canLayAll0 (dvs ns)) = true
    rw [lay_ints ns]
    rfl
theorem deep_ints : ∀ ns : List Int, PyData.depthAll (dvs ns) = 0
  | [] => rfl
  | n :: ns => by
    show max (PyData.depth (.int n)) (PyData.depthAll (dvs ns)) = 0
    rw [deep_ints ns]
    rfl
theorem eqv_nil (ns : List Int) : PyData.eqv (.list (dvs ns)) (.list []) = ns.isEmpty := by
  cases ns <;> rfl
def rNeNil : R2 := fun x y H Q => ∃ a b ns, x = .ref a ∧ y = .ref b ∧ H a = some (.lst (ivs ns)) ∧ H b = some (.lst []) ∧ Q (.bl (!ns.isEmpty)) H
theorem op_neNil {X : Cx} (hu : X.A.units + 64 < cLine) : OpR X (compareOp .NotEq) rNeNil := op_imp (op_neD hu) fun x y H Q h => by
  obtain ⟨a, b, ns, rfl, rfl, h1, h2, q⟩ := h
  refine ⟨.list (dvs ns), .list [], .lst (SqL.of h1) (dp_ints ns), .lst (SqL.of h2) .nil, ?_, by decide, ?_⟩
  · show (PyData.canLayAll0 (dvs ns) && decide (PyData.depthAll (dvs ns) + 1 ≤ 64)) = true
    rw [lay_ints, deep_ints]
    rfl
  · rw [eqv_nil]
    exact q
end Af

set_option Elab.async false
set_option linter.all false
set_option maxRecDepth 100000
namespace Af
open PySem L2
def top (i : Nat) : Stmt := PySem.Challenge.pw_afterfall_k48_errors_of_makers.main.body.getD i (.Pass ⟨0, 0, 0, 0⟩)
/-- names of the built-ins that the text does not hide -/
structure Txt (mg : Str → Option Value) : Prop where
  len : mg "len" = none
  int : mg "int" = none
  list : mg "list" = none
  tuple : mg "tuple" = none
  range : mg "range" = none
  min : mg "min" = none
  all : mg "all" = none
  enumerate : mg "enumerate" = none
  zip : mg "zip" = none
  isinstance : mg "isinstance" = none
  bool : mg "bool" = none
abbrev s_l_pen : Stmt := top 38
abbrev N_l_pen : List Str := ["_law_script"]
theorem sc_l_pen : FnScope N_l_pen ["_law_script"] (defScope s_l_pen) := ⟨rfl, rfl, rfl, by decide +kernel, rfl, by decide +kernel, by decide +kernel⟩

abbrev s_l_next : Stmt := top 39
abbrev N_l_next : List Str := ["_law_pen_here", "_law_index", "_law_cell_here", "_law_some", "_law_more", "_law_high"]
theorem sc_l_next : FnScope N_l_next ["_law_pen_here"] (defScope s_l_next) := ⟨rfl, rfl, rfl, by decide +kernel, rfl, by decide +kernel, by decide +kernel⟩

abbrev s_l_draw : Stmt := top 40
abbrev N_l_draw : List Str := ["_law_pen_here", "_law_under", "_law_digit"]
theorem sc_l_draw : FnScope N_l_draw ["_law_pen_here", "_law_under"] (defScope s_l_draw) := ⟨rfl, rfl, rfl, by decide +kernel, rfl, by decide +kernel, by decide +kernel⟩

def sp_pen (K : PySem.W.Frag) : Sp := fun vs H Q _ => ∃ (a : Addr) (ns : List Int), vs = [.ref a] ∧ SqL K H a (ns.map V.int) ∧ ∀ (q : Pn) H', Same H H' → H q.p = none → H q.c = none → Pen q 0 H' → Q (.ref q.p) H'
def sp_next : Sp := fun vs H Q _ => ∃ (q : Pn) (m : Nat), vs = [.ref q.p] ∧ Pen q m H ∧ m < 1000000000000 ∧ ∀ r H', 0 ≤ r → Go q (m + 1) H H' → Q (.int r) H'
def sp_draw : Sp := fun vs H Q _ => ∃ (q : Pn) (m : Nat) (u : Int), vs = [.ref q.p, .int u] ∧ 0 < u ∧ u < 1073741824 ∧ Pen q m H ∧ m < 1000000000000 ∧ ∀ d H', 0 ≤ d → d < u → Go q (m + 1) H H' → Q (.int d) H'
section
variable {P : Program} {w : World} {K : PySem.W.Frag} {mg : Str → Option Value} {base : Heap}
theorem ok_pen {f : Addr} {fd : FuncData} (F : Fun K "_law_pen" "_law_pen" s_l_pen f fd) (T : Txt mg) : FnOk P w K mg base CX0 1 f fd ["_law_script"] (sp_pen K) := by
  refine F.ok sc_l_pen (fun vs H Q E h => ?_) (fun cdv A outer s H vs Q E hr h => ?_)
  · obtain ⟨a, ns, rfl, _⟩ := h
    rfl
  obtain ⟨a, ns, rfl, hS, k⟩ := h
  refine ⟨_, (pss_one (ps_ret (pe_lst' (pa_cons (pe_callTy call_list' (by rfl) T.list (by decide +kernel) (pa_cons (pe_slice sl_list (pv 0) po_none (po_some pe_int)) pa_nil)) (pa_cons pe_int (pa_cons pe_int pa_nil)))))), ?_⟩
  refine ⟨_, rfl, 60, rfl, a, _, rfl, hS, fun c hc => ?_⟩
  have e1 : cutV (ns.map V.int) none (some 60) = (ns.take 60).map V.int := by
    unfold cutV
    have : HT.sIx (ns.map V.int).length (ns.map V.int).length (some 60) = min 60 (ns.map V.int).length := HT.sIx_nat _ _ 60
    rw [this, HT.sIx_none, List.drop_zero, Nat.sub_zero, ← List.map_take]
    congr 1
    rw [List.length_map]
    rcases Nat.le_total 60 ns.length with z | z
    · rw [Nat.min_eq_left z]
    · rw [Nat.min_eq_right z, List.take_of_length_le z, List.take_of_length_le (Nat.le_refl _)]
  refine ⟨c, _, rfl, .inl upd_same, fun d H1 hd s1 hd1 => ?_⟩
  refine ⟨sz (by show 3 ≤ 100000; decide), fun p H2 hp s2 hp2 => ?_⟩
  refine k ⟨p, d, ns.take 60⟩ H2 ((same_new hc).trans (s1.trans s2)) ?_ ?_ ⟨0, 0, hp2, ?_, ?_, Int.le_refl _, Int.le_refl _, Int.le_refl _⟩
  · exact (same_new hc).free (s1.free hp)
  · exact (same_new hc).free hd
  · rw [← e1]
    exact s2 _ _ hd1
  · intro z
    have z' : d = p := z
    rw [← z', hd1] at hp
    cases hp
theorem mod_in {i n : Int} (h : 0 < n) : 0 ≤ i % n ∧ i % n < n := ⟨Int.emod_nonneg i (by omega), Int.emod_lt_of_pos i h⟩
theorem at_mod {ns : List Int} {i : Int} (h : ns ≠ []) : ∃ z, atI (ivs ns) (i % ((ivs ns).length : Int)) = some (.int z) := by
  have hl : 0 < (ivs ns).length := by
    unfold ivs
    rw [List.length_map]
    exact List.length_pos_iff.mpr h
  obtain ⟨a, b⟩ := mod_in (i := i) (n := ((ivs ns).length : Int)) (by omega)
  obtain ⟨j, hj⟩ := Int.eq_ofNat_of_zero_le a
  rw [hj] at b ⊢
  have hj' : j < ns.length := by
    unfold ivs at b
    rw [List.length_map] at b
    omega
  refine ⟨ns[j], atI_nat ?_⟩
  unfold ivs
  rw [List.getElem?_map, List.getElem?_eq_getElem hj']
  rfl
theorem ok_next {f : Addr} {fd : FuncData} (F : Fun K "_law_next" "_law_next" s_l_next f fd) (T : Txt mg) : FnOk P w K mg base CX0 1 f fd ["_law_pen_here"] sp_next := by
  refine F.ok sc_l_next (fun vs H Q E h => ?_) (fun cdv A outer s H vs Q E hr h => ?_)
  · obtain ⟨a, m, rfl, _⟩ := h
    rfl
  obtain ⟨q, m, rfl, hP, hm, k⟩ := h
  obtain ⟨i, n, h1, h2, hc, hi, him, hn⟩ := hP.ex
  refine ⟨_, (pss_cons (ps_set (i := 1) sc_l_next.nd rfl (Or.inl rfl) (pe_ix ix_seq' (pv 0) pe_int (fun _ _ => rfl)))
    (pss_cons (ps_asg (pe_op op_add (pv 1) pe_int) (pg_sub (pv 0) pe_int set_list))
    (pss_cons (ps_set (i := 2) sc_l_next.nd rfl (Or.inl rfl) (pe_op op_add (pe_op op_mul (pv 1) pe_int) pe_int))
    (pss_cons (ps_cut (ps_if (pt_cmpR (op_neNil hr.units) (pe_ix ix_seq' (pv 0) pe_int (fun _ _ => rfl)) (pe_lst' pa_nil) (nomark _))
      (pss_one (ps_set (i := 2) sc_l_next.nd rfl (Or.inl rfl) (pe_ix ix_seq' (pe_ix ix_seq' (pv 0) pe_int (fun _ _ => rfl)) (pe_op op_mod (pe_callTy call_int1 (by rfl) T.int (by decide +kernel) (pa_cons (pv 1) pa_nil)) (pe_callB call_len' (by rfl) T.len (by decide +kernel) (pa_cons (pe_ix ix_seq' (pv 0) pe_int (fun _ _ => rfl)) pa_nil))) (fun _ _ => rfl))))
      pss_nil))
    (pss_cons (ps_cut (ps_if (PW.pt (pw_and (pt_cmpR op_lt (pv 1) (pe_callB call_len' (by rfl) T.len (by decide +kernel) (pa_cons (pe_ix ix_seq' (pv 0) pe_int (fun _ _ => rfl)) pa_nil)) (nomark _)) (pw_and1 (pt_cmpR op_ge (pv 2) (pe_op op_pow pe_int pe_int) (nomark _)))))
      (pss_one (ps_ret (pv 2)))
      pss_nil))
    (pss_cons (ps_set (i := 3) sc_l_next.nd rfl (Or.inl rfl) (pe_op op_mod (pe_callTy call_int1 (by rfl) T.int (by decide +kernel) (pa_cons (pe_op op_add (pe_op op_add (pe_op op_mod (pe_callTy call_int1 (by rfl) T.int (by decide +kernel) (pa_cons (pv 2) pa_nil)) pe_int) (pe_op op_mul (pv 1) pe_int)) pe_int) pa_nil)) pe_int))
    (pss_cons (ps_set (i := 4) sc_l_next.nd rfl (Or.inl rfl) (pe_op op_mod (pe_callTy call_int1 (by rfl) T.int (by decide +kernel) (pa_cons (pe_op op_add (pe_op op_add (pe_op op_mul (pv 3) (pv 3)) (pe_op op_mul (pv 1) pe_int)) pe_int) pa_nil)) pe_int))
    (pss_cons (ps_set (i := 5) sc_l_next.nd rfl (Or.inl rfl) (pe_op op_mod (pe_callTy call_int1 (by rfl) T.int (by decide +kernel) (pa_cons (pe_op op_add (pe_op op_add (pe_op op_mul (pv 4) (pv 4)) (pv 3)) (pe_op op_mul (pe_op op_mul (pv 1) (pv 1)) pe_int)) pa_nil)) pe_int))
    (pss_one (ps_ret (pe_op op_add (pe_op op_mul (pe_op op_add (pe_op op_mul (pv 5) pe_int) (pv 4)) pe_int) (pv 3)))))))))))), ?_⟩
  -- the count, the cell
  refine ⟨_, rfl, q.p, _, _, _, rfl, rfl, .inl h1, rfl, ?_⟩
  refine ⟨_, rfl, _, _, rfl, rfl, _, rfl, q.p, _, _, _, rfl, rfl, h1, rfl, ?_⟩
  refine ⟨_, rfl, _, _, rfl, rfl, .inr ⟨by decide, by decide⟩, _, _, rfl, rfl, ?_⟩
  have e1 : (upd H q.p (.lst [.ref q.c, .int (i + 1), .int n])) q.p = some (.lst [.ref q.c, .int (i + 1), .int n]) := upd_same
  have g1 : Go q (m + 1) H (upd H q.p (.lst [.ref q.c, .int (i + 1), .int n])) := Go.at_ hP ⟨i + 1, n, upd_same, by rw [upd_ne hc]; exact h2, hc, by omega, by omega, hn⟩
  have e2 : (upd H q.p (.lst [.ref q.c, .int (i + 1), .int n])) q.c = some (.lst (ivs q.ns)) := by rw [upd_ne hc]; exact h2
  refine ⟨fun σ' H' => ∃ cell : Int, σ' = [some (.ref q.p), some (.int i), some (.int cell), none, none, none] ∧ Go q (m + 1) H H' ∧ H' q.p = some (.lst [.ref q.c, .int (i + 1), .int n]) ∧ H' q.c = some (.lst (ivs q.ns)), ?_, ?_⟩
  · refine ⟨_, rfl, q.p, _, _, _, rfl, rfl, .inl e1, rfl, ?_⟩
    refine ⟨sz (by decide), fun e H1 he s1 he1 => ?_⟩
    have k1 := s1 _ _ e1
    have k2 := s1 _ _ e2
    have g2 := g1.same s1
    refine ⟨q.c, e, q.ns, rfl, rfl, k2, he1, _, rfl, ?_⟩
    by_cases hns : q.ns = []
    · have z : (!q.ns.isEmpty) = false := by rw [hns]; rfl
      rw [z]
      exact iteF ⟨_, rfl, g2, k1, k2⟩
    · have z : (!q.ns.isEmpty) = true := by
        cases e : q.ns with
        | nil => exact absurd e hns
        | cons a b => rfl
      rw [z]
      refine iteT ?_
      obtain ⟨v, hv⟩ := at_mod (i := i) hns
      refine ⟨_, rfl, q.p, _, _, _, rfl, rfl, .inl k1, rfl, ?_⟩
      refine ⟨_, rfl, .inl ⟨_, rfl, ?_⟩⟩
      refine ⟨_, rfl, q.p, _, _, _, rfl, rfl, .inl k1, rfl, q.c, _, rfl, .inl k2, ?_⟩
      refine ⟨_, _, rfl, rfl, ?_, q.c, _, _, _, rfl, rfl, .inl k2, hv, ?_⟩
      · unfold ivs
        rw [List.length_map]
        have := List.length_pos_iff.mpr hns
        omega
      · exact ⟨v, rfl, g2, k1, k2⟩
  · rintro σ' H' ⟨cell, rfl, g2, k1, k2⟩
    -- a great cell is taken as it is
    refine ⟨fun σ'' H'' => σ'' = [some (.ref q.p), some (.int i), some (.int cell), none, none, none] ∧ H'' = H', ?_, ?_⟩
    · refine ⟨_, rfl, _, rfl, q.p, _, _, _, rfl, rfl, .inl k1, rfl, q.c, _, rfl, .inl k2, ?_⟩
      refine ⟨_, _, rfl, rfl, _, rfl, ite2 (fun _ => ?_) (fun _ => iteF ⟨rfl, rfl⟩)⟩
      refine ⟨_, rfl, _, _, rfl, rfl, ⟨by decide, by decide, by decide⟩, _, _, rfl, rfl, _, rfl, ite2 (fun q => ?_) (fun _ => ⟨rfl, rfl⟩)⟩
      refine ⟨_, rfl, k cell H' ?_ g2⟩
      have q' : (10 : Int) ^ (18 : Nat) ≤ cell := of_decide_eq_true q
      omega
    · rintro σ'' H'' ⟨rfl, rfl⟩
      have M1 : (0 : Int) < 2147483587 := by decide
      refine ⟨_, rfl, .inl ⟨_, rfl, _, _, rfl, rfl, M1, ?_⟩⟩
      refine ⟨_, rfl, _, _, rfl, rfl, .inr ⟨by decide, by decide⟩, _, _, rfl, rfl, _, _, rfl, rfl, .inl ⟨_, rfl, _, _, rfl, rfl, M1, ?_⟩⟩
      generalize hs : ((cell % 2147483587 + i * 30119 + 89) % 2147483587 : Int) = some1
      have b1 := mod_in (i := cell % 2147483587 + i * 30119 + 89) M1
      rw [hs] at b1
      have M2 : (0 : Int) < 2147483563 := by decide
      refine ⟨_, rfl, _, rfl, _, _, rfl, rfl, .inl ⟨by omega, by omega⟩, _, rfl, _, _, rfl, rfl, .inr ⟨by decide, by decide⟩, _, _, rfl, rfl, _, _, rfl, rfl, .inl ⟨_, rfl, _, _, rfl, rfl, M2, ?_⟩⟩
      generalize hs2 : ((some1 * some1 + i * 70061 + 71) % 2147483563 : Int) = more
      have b2 := mod_in (i := some1 * some1 + i * 70061 + 71) M2
      rw [hs2] at b2
      have M3 : (0 : Int) < 2147483549 := by decide
      refine ⟨_, rfl, _, rfl, _, _, rfl, rfl, .inl ⟨by omega, by omega⟩, _, rfl, _, _, rfl, rfl, _, rfl, _, rfl, _, _, rfl, rfl, .inl ⟨by omega, by omega⟩, _, _, rfl, rfl, .inr ⟨by decide, by decide⟩, _, _, rfl, rfl, .inl ⟨_, rfl, _, _, rfl, rfl, M3, ?_⟩⟩
      generalize hs3 : ((more * more + some1 + i * i * 47) % 2147483549 : Int) = high
      have b3 := mod_in (i := more * more + some1 + i * i * 47) M3
      rw [hs3] at b3
      refine ⟨_, rfl, _, _, rfl, rfl, .inr ⟨by decide, by decide⟩, _, rfl, _, _, rfl, rfl, _, _, rfl, rfl, .inr ⟨by decide, by decide⟩, _, rfl, _, _, rfl, rfl, ?_⟩
      exact k _ H'' (by omega) g2
theorem ok_draw {f : Addr} {fd : FuncData} (F : Fun K "_law_draw" "_law_draw" s_l_draw f fd) (T : Txt mg) (c_l_next : Cal P w K mg base 1 "_law_next" ["_law_pen_here"] sp_next) : FnOk P w K mg base CX0 2 f fd ["_law_pen_here", "_law_under"] sp_draw := by
  refine F.ok sc_l_draw (fun vs H Q E h => ?_) (fun cdv A outer s H vs Q E hr h => ?_)
  · obtain ⟨a, m, u, rfl, _⟩ := h
    rfl
  obtain ⟨q, m, u, rfl, u0, u1, hP, hm, k⟩ := h
  refine ⟨_, (pss_cons (ps_cut (ps_if (pt_cmpR op_lt (pe_ix ix_seq' (pv 0) pe_int (fun _ _ => rfl)) (pv 1) (nomark _))
      (pss_one (ps_asg (pe_cal c_l_next hr (pa_cons (pv 0) pa_nil)) (pg_sub (pv 0) pe_int set_list)))
      pss_nil))
    (pss_cons (ps_set (i := 2) sc_l_draw.nd rfl (Or.inl rfl) (pe_op op_mod (pe_callTy call_int1 (by rfl) T.int (by decide +kernel) (pa_cons (pe_ix ix_seq' (pv 0) pe_int (fun _ _ => rfl)) pa_nil)) (pv 1)))
    (pss_cons (ps_asg (pe_op op_fdiv (pe_ix ix_seq' (pv 0) pe_int (fun _ _ => rfl)) (pv 1)) (pg_sub (pv 0) pe_int set_list))
    (pss_one (ps_ret (pv 2)))))), ?_⟩
  refine ⟨fun σ' H' => ∃ i n, σ' = [some (.ref q.p), some (.int u), none] ∧ Go q (m + 1) H H' ∧ H' q.p = some (.lst [.ref q.c, .int i, .int n]) ∧ H' q.c = some (.lst (ivs q.ns)) ∧ q.c ≠ q.p ∧ 0 ≤ i ∧ i ≤ ((m + 1 : Nat) : Int) ∧ 0 ≤ n, ?_, ?_⟩
  · obtain ⟨i, n, h1, h2, hc, hi, him, hn⟩ := hP.ex
    refine ⟨_, rfl, q.p, _, _, _, rfl, rfl, .inl h1, rfl, _, rfl, _, _, rfl, rfl, _, rfl, ite2 (fun _ => ?_) (fun _ => ?_)⟩
    · refine ⟨_, rfl, q, m, rfl, hP, hm, fun r H1 r0 g1 => ?_⟩
      obtain ⟨i, n, h1, h2, hc, hi, him, hn⟩ := g1.pen.ex
      refine ⟨_, rfl, q.p, _, _, _, rfl, rfl, h1, rfl, i, r, rfl, ?_, upd_same, by rw [upd_ne hc]; exact h2, hc, hi, him, r0⟩
      exact g1.trans (Go.at_ g1.pen ⟨i, r, upd_same, by rw [upd_ne hc]; exact h2, hc, hi, him, r0⟩)
    · exact ⟨i, n, rfl, (Go.refl hP).mono (Nat.le_succ m), h1, h2, hc, hi, by omega, hn⟩
  · rintro σ' H' ⟨i, n, rfl, g1, h1, h2, hc, hi, him, hn⟩
    refine ⟨_, rfl, q.p, _, _, _, rfl, rfl, .inl h1, rfl, .inl ⟨_, rfl, _, rfl, _, _, rfl, rfl, u0, ?_⟩⟩
    refine ⟨_, rfl, q.p, _, _, _, rfl, rfl, .inl h1, rfl, _, rfl, _, _, rfl, rfl, ⟨u0, u1⟩, _, rfl, q.p, _, _, _, rfl, rfl, h1, rfl, ?_⟩
    obtain ⟨b0, b1⟩ := mod_in (i := n) u0
    refine ⟨_, rfl, k _ _ b0 b1 (g1.trans (Go.at_ g1.pen ⟨i, n / u, upd_same, by rw [upd_ne hc]; exact h2, hc, hi, him, Int.ediv_nonneg hn (by omega)⟩))⟩
end
end Af

set_option Elab.async false
set_option linter.all false
set_option maxRecDepth 100000
namespace Af
open PySem L2
theorem same_mut {H H' : Hp} {D : Addr} {o : HO} (s : Same H H') (h : H D = none) : Same H (upd H' D o) := fun a u e => by
  rw [upd_ne (ne_of_none e h)]
  exact s a u e
/-! data: a step, a plan's parts -/
abbrev Stp := Option (Int × List Int)
def StepV (H : Hp) : V → Stp → Prop
  | x, none => x = .non
  | x, some (f, ws) => ∃ a b, x = .ref a ∧ H a = some (.tup [.int f, .ref b]) ∧ H b = some (.tup (ivs ws))
structure Pl where
  cs : List Int
  w : Int
  sts : List Stp
structure PlanV (p : Addr) (H : Hp) (v : V) (pl : Pl) : Prop where
  ex : ∃ a ca sa xs, v = .ref a ∧ H a = some (.tup [.ref ca, .int pl.w, .ref sa]) ∧ H ca = some (.tup (ivs pl.cs)) ∧ sa ≠ p ∧ H sa = some (.lst xs) ∧ Paired (StepV H) xs pl.sts
theorem StepV.kp {p : Addr} {H H' : Hp} (k : Kp p H H') : ∀ {x : V} {st : Stp}, StepV H x st → StepV H' x st
  | x, none, h => h
  | x, some (f, ws), h => by
    obtain ⟨a, b, e, h1, h2⟩ := h
    exact ⟨a, b, e, k.tup h1, k.tup h2⟩
theorem steps_kp {p : Addr} {H H' : Hp} {xs : List V} {sts : List Stp} (k : Kp p H H') (h : Paired (StepV H) xs sts) : Paired (StepV H') xs sts := L2.Paired.mapP h fun _ _ z => z.kp k
theorem steps_same {H H' : Hp} {xs : List V} {sts : List Stp} (k : Same H H') (h : Paired (StepV H) xs sts) : Paired (StepV H') xs sts := steps_kp (p := 0) (Kp.same k) h
theorem PlanV.kp {p : Addr} {H H' : Hp} {v : V} {pl : Pl} (k : Kp p H H') (h : PlanV p H v pl) : PlanV p H' v pl := by
  obtain ⟨a, ca, sa, xs, e, h1, h2, n, h3, h4⟩ := h.ex
  exact ⟨a, ca, sa, xs, e, k.tup h1, k.tup h2, n, k.lst n h3, steps_kp k h4⟩
theorem PlanV.same {p : Addr} {H H' : Hp} {v : V} {pl : Pl} (k : Same H H') (h : PlanV p H v pl) : PlanV p H' v pl := h.kp (Kp.same k)
theorem paired_app {α β : Type} {F : α → β → Prop} : ∀ {a c : List α} {b d : List β}, Paired F a b → Paired F c d → Paired F (a ++ c) (b ++ d)
  | _, _, _, _, .nil, h => h
  | _, _, _, _, .cons r t, h => .cons r (paired_app t h)
theorem paired_take {α β : Type} {F : α → β → Prop} : ∀ {a : List α} {b : List β} (n : Nat), Paired F a b → Paired F (a.take n) (b.take n)
  | _, _, 0, _ => by
    rw [List.take_zero, List.take_zero]
    exact .nil
  | _, _, n + 1, .nil => .nil
  | _, _, n + 1, .cons r t => .cons r (paired_take n t)
theorem paired_drop {α β : Type} {F : α → β → Prop} : ∀ {a : List α} {b : List β} (n : Nat), Paired F a b → Paired F (a.drop n) (b.drop n)
  | _, _, 0, h => h
  | _, _, n + 1, .nil => .nil
  | _, _, n + 1, .cons r t => paired_drop n t
theorem paired_rev {α β : Type} {F : α → β → Prop} : ∀ {a : List α} {b : List β}, Paired F a b → Paired F a.reverse b.reverse
  | _, _, .nil => .nil
  | _, _, .cons r t => by
    rw [List.reverse_cons, List.reverse_cons]
    exact paired_app (paired_rev t) (.cons r .nil)
theorem paired_get {α β : Type} {F : α → β → Prop} : ∀ {a : List α} {b : List β} {i : Nat} {x : α}, Paired F a b → a[i]? = some x → ∃ y, b[i]? = some y ∧ F x y
  | _, _, _, _, .nil, e => by simp at e
  | _, _, 0, x, .cons r _, e => by
    simp at e
    subst e
    exact ⟨_, rfl, r⟩
  | _, _, i + 1, x, .cons _ t, e => by
    obtain ⟨y, h1, h2⟩ := paired_get (i := i) (x := x) t (by simpa using e)
    exact ⟨y, by simpa using h1, h2⟩
theorem paired_len {α β : Type} {F : α → β → Prop} : ∀ {a : List α} {b : List β}, Paired F a b → a.length = b.length
  | _, _, .nil => rfl
  | _, _, .cons _ t => by
    rw [List.length_cons, List.length_cons, paired_len t]
theorem ivs_len (ns : List Int) : (ivs ns).length = ns.length := List.length_map ..
theorem ivs_get {ns : List Int} {i : Nat} (h : i < ns.length) : (ivs ns)[i]? = some (.int ns[i]) := by
  unfold ivs
  rw [List.getElem?_map, List.getElem?_eq_getElem h]
  rfl
/-- a step of a store of n cells -/
def OkS (n : Nat) : Stp → Prop
  | none => True
  | some (f, ws) => 0 ≤ f ∧ ws ≠ [] ∧ f + (ws.length : Int) ≤ (n : Int) ∧ ∀ z ∈ ws, 0 ≤ z ∧ z < 8
def stl : Stp → Nat
  | none => 0
  | some (_, ws) => ws.length
def tot (l : List Stp) : Nat := (l.map stl).sum
theorem tot_nil : tot [] = 0 := rfl
theorem tot_cons (a : Stp) (b : List Stp) : tot (a :: b) = stl a + tot b := by
  unfold tot
  rw [List.map_cons, List.sum_cons]
theorem tot_app (a b : List Stp) : tot (a ++ b) = tot a + tot b := by
  unfold tot
  rw [List.map_append, List.sum_append]
theorem tot_one (a : Stp) : tot [a] = stl a := by
  rw [tot_cons, tot_nil, Nat.add_zero]
theorem tot_take_drop (l : List Stp) (n : Nat) : tot (l.take n) + tot (l.drop n) = tot l := by
  rw [← tot_app, List.take_append_drop]
theorem tot_rev (l : List Stp) : tot l.reverse = tot l := by
  induction l with
  | nil => rfl
  | cons a l ih => rw [List.reverse_cons, tot_app, tot_one, tot_cons, ih, Nat.add_comm]
/-- a plan that the program takes, with room to spare for s steps and t cells of writes -/
structure Good (s t : Nat) (pl : Pl) : Prop where
  c1 : 1 ≤ pl.cs.length
  c24 : pl.cs.length ≤ 24
  cb : ∀ z ∈ pl.cs, 0 ≤ z ∧ z < 8
  w1 : 1 ≤ pl.w
  w24 : pl.w ≤ 24
  st : ∀ x ∈ pl.sts, OkS pl.cs.length x
  sl : pl.sts.length ≤ s
  tl : tot pl.sts ≤ t
theorem Good.mono {s t s' t' : Nat} {pl : Pl} (g : Good s t pl) (h1 : s ≤ s') (h2 : t ≤ t') : Good s' t' pl := ⟨g.c1, g.c24, g.cb, g.w1, g.w24, g.st, Nat.le_trans g.sl h1, Nat.le_trans g.tl h2⟩
/-! a comprehension whose element is a draw -/
theorem lc_draws {te : TE} {j : Nat} {vs : List Nat} {σ : L2.St} {q : Pn} {m n : Nat} {u : Int} {H : Hp} {R : Addr → Hp → Prop} (hP : Pen q m H) (hn : n ≤ 10000)
    (hw : ∀ x, wipe ((wipe σ vs).set j (some x)) vs = wipe σ vs)
    (hte : ∀ (x : V) (H1 : Hp) (Q : VK) (m1 : Nat), Pen q m1 H1 → m1 < m + n → (∀ d H', 0 ≤ d → d < u → Go q (m1 + 1) H1 H' → Q (.int d) H') → te ((wipe σ vs).set j (some x)) H1 Q)
    (k : ∀ D H' ns, H D = none → Go q (m + n) H H' → H' D = some (.lst (ivs ns)) → ns.length = n → (∀ z ∈ ns, 0 ≤ z ∧ z < u) → R D H') :
    ∀ D, H D = none → ∃ W : Nat → Nat → Hp → Prop, (∃ m, W 0 m (upd H D (.lst []))) ∧ ∀ i m H, W i m H →
      ((Itr 0 n).stop i H ∧ R D H) ∨ ((Itr 0 n).go i H ∧ ∃ Nx : Hp → Prop, (∀ H', Nx H' → ∃ m', m' < m ∧ W (i + 1) m' H') ∧ ∀ x H', (Itr 0 n).yld i H x H' → (gName j) x (wipe σ vs) H' fun σ2 H2 => wipe σ2 vs = wipe σ vs ∧ tYes σ2 H2 fun b H3 =>
        if b = true then te σ2 H3 fun y H4 => ∃ acc, H4 D = some (.lst acc) ∧ acc.length < sizeLine ∧ Nx (upd H4 D (.lst (acc ++ [y]))) else Nx H3) := by
  intro D hD
  refine lc_range (lo := 0) (n := n) (g := gName j) (tt := tYes) (te := te) (vs := vs) (σ := σ) (H1 := H) (D := D) (Qd := fun H' => R D H')
    (fun i H' => ∃ ns, Go q (m + i) H H' ∧ H' D = some (.lst (ivs ns)) ∧ ns.length = i ∧ ∀ z ∈ ns, 0 ≤ z ∧ z < u) ?_ ?_ ?_
  · exact ⟨[], (Go.of hP (same_new hD)), upd_same, rfl, fun z hz => by simp at hz⟩
  · rintro i H' hi ⟨ns, g, hL, hl, hb⟩
    refine ⟨hw _, ?_⟩
    refine hte _ _ _ _ g.pen (by omega) fun d H'' d0 d1 g2 => ?_
    have hD2 : H'' D = some (.lst (ivs ns)) := g2.kp.lst (hP.free hD).1 hL
    refine ⟨_, hD2, by rw [ivs_len, hl]; exact szl (by omega), ns ++ [d], ?_, ?_, by rw [List.length_append, hl]; rfl, fun z hz => ?_⟩
    · exact Go.mut hP hD ((g.trans g2).mono (by omega))
    · rw [upd_same]
      unfold ivs
      rw [List.map_append]
      rfl
    · rcases List.mem_append.mp hz with hz | hz
      · exact hb z hz
      · rw [List.mem_singleton.mp hz]
        exact ⟨d0, d1⟩
  · rintro H' ⟨ns, g, hL, hl, hb⟩
    exact k D H' ns hD g hL hl hb
end Af

set_option Elab.async false
set_option linter.all false
set_option maxRecDepth 100000
namespace Af
open PySem L2
/-! things of any kind, and what they are -/
def tyNames : List String := ["NoneType", "bool", "int", "str", "list", "tuple", "dict"]
def clNames : List String := ["int", "bool", "tuple", "list", "dict", "str"]
def isB (n c : String) : Bool := n == c || (n == "bool" && c == "int")
theorem kit_all : ∀ n ∈ tyNames, ∀ c ∈ clNames, kitB n c = some (isB n c) := by decide +kernel
structure Ty (K : PySem.W.Frag) (H : Hp) (x : V) (n : String) : Prop where
  ty : TyOf K H x (.type n)
  mem : n ∈ tyNames
  nf : ∀ a o u, x = .ref a → H a ≠ some (.frz o u)
def rIsi' (K : PySem.W.Frag) : List V → Hp → VK → Prop := fun xs H Q => ∃ x n c, xs = [x, .ty c] ∧ Ty K H x n ∧ c ∈ clNames ∧ Q (.bl (isB n c)) H
theorem call_isi' {X : Cx} : CallR X (.builtin "isinstance") (rIsi' X.K) := call_imp call_isi fun xs H Q h => by
  obtain ⟨x, n, c, e, t, hc, q⟩ := h
  exact ⟨x, .ty c, _, _, _, e, .ty c, .base t.ty, kit_ty (kit_all n t.mem c hc), q⟩
theorem tyof_at {K : PySem.W.Frag} {H : Hp} {a : Addr} {n : String} (t : TyOf K H (.ref a) (.type n)) : ∃ o, H a = some o := by
  cases t with
  | lst e => exact ⟨_, e⟩
  | frz e => exact ⟨_, e⟩
  | tup e => exact ⟨_, e⟩
  | dK e => exact ⟨_, e⟩
  | dT e => exact ⟨_, e⟩
theorem Ty.same {K : PySem.W.Frag} {H H' : Hp} {x : V} {n : String} (s : Same H H') (t : Ty K H x n) : Ty K H' x n := by
  obtain ⟨t, m, nf⟩ := t
  refine ⟨?_, m, fun a o u e z => ?_⟩
  · cases t with
    | non => exact .non
    | bl b => exact .bl b
    | int i => exact .int i
    | str z => exact .str z
    | lst e => exact .lst (s _ _ e)
    | frz e => exact .frz (s _ _ e)
    | tup e => exact .tup (s _ _ e)
    | dK e => exact .dK (s _ _ e)
    | dT e => exact .dT (s _ _ e)
    | flt z => exact .flt z
  · subst e
    obtain ⟨o', ho⟩ := tyof_at t
    rw [s _ _ ho] at z
    exact nf a o u rfl (ho.trans z)
theorem ty_int {K : PySem.W.Frag} {H : Hp} {x : V} {n : String} (t : Ty K H x n) (h : n = "int") : ∃ i, x = .int i := by
  obtain ⟨t, _, nf⟩ := t
  generalize e : Value.type n = v at t
  subst h
  cases t with
  | int i => exact ⟨i, rfl⟩
  | ins => cases e
  | _ => exact absurd (by injection e) (by decide)
theorem ty_tup {K : PySem.W.Frag} {H : Hp} {x : V} {n : String} (t : Ty K H x n) (h : n = "tuple") : ∃ a xs, x = .ref a ∧ H a = some (.tup xs) := by
  obtain ⟨t, _, nf⟩ := t
  generalize e : Value.type n = v at t
  subst h
  cases t with
  | tup z => exact ⟨_, _, rfl, z⟩
  | ins => cases e
  | _ => exact absurd (by injection e) (by decide)
theorem ty_lst {K : PySem.W.Frag} {H : Hp} {x : V} {n : String} (t : Ty K H x n) (h : n = "list") : ∃ a xs, x = .ref a ∧ H a = some (.lst xs) := by
  obtain ⟨t, _, nf⟩ := t
  generalize e : Value.type n = v at t
  subst h
  cases t with
  | lst z => exact ⟨_, _, rfl, z⟩
  | frz z => exact absurd z (nf _ _ _ rfl)
  | ins => cases e
  | _ => exact absurd (by injection e) (by decide)
theorem no_int {K : PySem.W.Frag} {H : Hp} {x : V} {n : String} (t : Ty K H x n) (h : n ≠ "int") : ∀ i, x ≠ .int i := fun i e => by
  subst e
  cases t.ty with
  | int i => exact h rfl
theorem no_tup {K : PySem.W.Frag} {H : Hp} {x : V} {n : String} (t : Ty K H x n) (h : n ≠ "tuple") : ∀ a xs, x = .ref a → H a ≠ some (.tup xs) := fun a xs e z => by
  subst e
  cases t.ty with
  | tup e => exact h rfl
  | lst e => rw [e] at z; cases z
  | frz e => rw [e] at z; cases z
  | dK e => rw [e] at z; cases z
  | dT e => rw [e] at z; cases z
/-- a thing whose parts are things, to a depth -/
def Th (K : PySem.W.Frag) (H : Hp) : Nat → V → Prop
  | 0, x => ∃ n, Ty K H x n
  | d + 1, x => (∃ n, Ty K H x n) ∧ ∀ a xs, x = .ref a → (H a = some (.tup xs) ∨ H a = some (.lst xs)) → xs.length ≤ 100000 ∧ ∀ y ∈ xs, Th K H d y
theorem Th.ty {K : PySem.W.Frag} {H : Hp} : ∀ {d : Nat} {x : V}, Th K H d x → ∃ n, Ty K H x n
  | 0, _, h => h
  | _ + 1, _, h => h.1
theorem ty_at {K : PySem.W.Frag} {H : Hp} {a : Addr} {n : String} (t : Ty K H (.ref a) n) : ∃ o, H a = some o := tyof_at t.ty
theorem Th.same {K : PySem.W.Frag} {H H' : Hp} (s : Same H H') : ∀ {d : Nat} {x : V}, Th K H d x → Th K H' d x
  | 0, _, ⟨n, h⟩ => ⟨n, h.same s⟩
  | d + 1, x, ⟨⟨n, h⟩, k⟩ => ⟨⟨n, h.same s⟩, fun a xs e z => by
    subst e
    obtain ⟨o, ho⟩ := ty_at h
    have e' := s _ _ ho
    have z' : H a = some (.tup xs) ∨ H a = some (.lst xs) := by
      rcases z with z | z
      · rw [e'] at z
        rw [ho]
        exact .inl z
      · rw [e'] at z
        rw [ho]
        exact .inr z
    exact ⟨(k a xs rfl z').1, fun y hy => ((k a xs rfl z').2 y hy).same s⟩⟩
theorem th_int {K : PySem.W.Frag} {H : Hp} {i : Int} : ∀ {d : Nat}, Th K H d (.int i)
  | 0 => ⟨"int", .int i, by decide, fun _ _ _ e => by cases e⟩
  | _ + 1 => ⟨⟨"int", .int i, by decide, fun _ _ _ e => by cases e⟩, fun a xs e => by cases e⟩
theorem th_non {K : PySem.W.Frag} {H : Hp} : ∀ {d : Nat}, Th K H d .non
  | 0 => ⟨"NoneType", .non, by decide, fun _ _ _ e => by cases e⟩
  | _ + 1 => ⟨⟨"NoneType", .non, by decide, fun _ _ _ e => by cases e⟩, fun a xs e => by cases e⟩
theorem th_tup {K : PySem.W.Frag} {H : Hp} {a : Addr} {xs : List V} (e : H a = some (.tup xs)) (hl : xs.length ≤ 100000) : ∀ {d : Nat}, (∀ y ∈ xs, Th K H d y) → Th K H (d + 1) (.ref a) := fun {d} k =>
  ⟨⟨"tuple", .tup e, by decide, fun b o u z h => by cases z; rw [e] at h; cases h⟩, fun b ys z h => by
    cases z
    rcases h with h | h
    · rw [e] at h
      cases h
      exact ⟨hl, k⟩
    · rw [e] at h
      cases h⟩
theorem th_lst {K : PySem.W.Frag} {H : Hp} {a : Addr} {xs : List V} (e : H a = some (.lst xs)) (hl : xs.length ≤ 100000) : ∀ {d : Nat}, (∀ y ∈ xs, Th K H d y) → Th K H (d + 1) (.ref a) := fun {d} k =>
  ⟨⟨"list", .lst e, by decide, fun b o u z h => by cases z; rw [e] at h; cases h⟩, fun b ys z h => by
    cases z
    rcases h with h | h
    · rw [e] at h
      cases h
    · rw [e] at h
      cases h
      exact ⟨hl, k⟩⟩
/-! what the program's questions answer -/
def idxB (m : Int) : V → Bool
  | .int i => decide (0 ≤ i) && decide (i < m)
  | _ => false
def widthB : V → Bool
  | .int i => decide (1 ≤ i) && decide (i ≤ 24)
  | _ => false
def worthsB (H : Hp) : V → Bool
  | .ref a => match H a with
    | some (.tup xs) => !xs.isEmpty && xs.all (idxB 8)
    | _ => false
  | _ => false
def lenB (H : Hp) : V → Nat
  | .ref a => match H a with
    | some (.tup xs) => xs.length
    | some (.lst xs) => xs.length
    | _ => 0
  | _ => 0
def contentB (H : Hp) (x : V) : Bool := worthsB H x && decide (lenB H x ≤ 24)
def addB (m : Int) (n : Nat) : V → Bool
  | .int i => decide (i + (n : Int) ≤ m)
  | _ => false
def stepB (H : Hp) (m : Int) : V → Bool
  | .non => true
  | .ref a => match H a with
    | some (.tup [f, ws]) => idxB m f && worthsB H ws && addB m (lenB H ws) f
    | _ => false
  | _ => false
def stepsB (H : Hp) (m : Int) : V → Bool
  | .ref a => match H a with
    | some (.lst xs) => xs.all (stepB H m)
    | _ => false
  | _ => false
theorem worths_at {H : Hp} {a : Addr} {xs : List V} (h : H a = some (.tup xs)) : worthsB H (.ref a) = (!xs.isEmpty && xs.all (idxB 8)) := by
  unfold worthsB
  simp only [h]
theorem len_at {H : Hp} {a : Addr} {xs : List V} (h : H a = some (.tup xs)) : lenB H (.ref a) = xs.length := by
  unfold lenB
  simp only [h]
theorem worths_not {K : PySem.W.Frag} {H : Hp} {x : V} {n : String} (t : Ty K H x n) (h : n ≠ "tuple") : worthsB H x = false := by
  have z := no_tup t h
  cases x with
  | ref a =>
    cases e : H a with
    | none => simp only [worthsB, e]
    | some o =>
      cases o with
      | tup xs => exact absurd e (z a xs rfl)
      | _ => simp only [worthsB, e]
  | _ => rfl
theorem worths_same {K : PySem.W.Frag} {H H' : Hp} {x : V} {n : String} (t : Ty K H x n) (s : Same H H') : worthsB H' x = worthsB H x := by
  cases x with
  | ref a =>
    obtain ⟨o, ho⟩ := ty_at t
    simp only [worthsB, ho, s _ _ ho]
  | _ => rfl
theorem len_same {K : PySem.W.Frag} {H H' : Hp} {x : V} {n : String} (t : Ty K H x n) (s : Same H H') : lenB H' x = lenB H x := by
  cases x with
  | ref a =>
    obtain ⟨o, ho⟩ := ty_at t
    simp only [lenB, ho, s _ _ ho]
  | _ => rfl
theorem worths_true {H : Hp} {x : V} (h : worthsB H x = true) : ∃ a xs, x = .ref a ∧ H a = some (.tup xs) ∧ xs ≠ [] ∧ xs.all (idxB 8) = true := by
  cases x with
  | ref a =>
    cases e : H a with
    | none => simp only [worthsB, e] at h; cases h
    | some o =>
      cases o with
      | tup xs =>
        rw [worths_at e, Bool.and_eq_true] at h
        refine ⟨a, xs, rfl, e, fun z => ?_, h.2⟩
        rw [z] at h
        exact absurd h.1 (by decide)
      | _ => simp only [worthsB, e] at h; cases h
  | _ => cases h
theorem int_one : ∀ n ∈ tyNames, isB n "int" = true → (!isB n "bool") = decide (n = "int") := by decide +kernel
theorem int_two : ∀ n ∈ tyNames, isB n "int" = false → decide (n = "int") = false := by decide +kernel
theorem tup_not : ∀ n ∈ tyNames, n ≠ "tuple" → isB n "tuple" = false := by decide +kernel
theorem lst_not : ∀ n ∈ tyNames, n ≠ "list" → isB n "list" = false := by decide +kernel
theorem idx_not {m : Int} {x : V} (h : ∀ i, x ≠ .int i) : idxB m x = false := by
  cases x with
  | int i => exact absurd rfl (h i)
  | _ => rfl
theorem width_not {x : V} (h : ∀ i, x ≠ .int i) : widthB x = false := by
  cases x with
  | int i => exact absurd rfl (h i)
  | _ => rfl
theorem ty_is_lst {K : PySem.W.Frag} {H : Hp} {a : Addr} {n : String} {xs : List V} (t : Ty K H (.ref a) n) (e : H a = some (.lst xs)) : n = "list" := by
  obtain ⟨t, m, nf⟩ := t
  cases t with
  | lst z => rfl
  | frz z => exact absurd z (nf _ _ _ rfl)
  | tup z => rw [e] at z; cases z
  | dK z => rw [e] at z; cases z
  | dT z => rw [e] at z; cases z
theorem step_same {K : PySem.W.Frag} {H H' : Hp} {x : V} {m : Int} (th : Th K H 2 x) (s : Same H H') : stepB H' m x = stepB H m x := by
  cases x with
  | ref a =>
    obtain ⟨n, t⟩ := th.ty
    obtain ⟨o, ho⟩ := ty_at t
    have ho' := s _ _ ho
    cases o with
    | tup xs =>
      match xs, ho, ho' with
      | [], ho, ho' => simp only [stepB, ho, ho']
      | [_], ho, ho' => simp only [stepB, ho, ho']
      | [f, ws], ho, ho' =>
        obtain ⟨n2, t2⟩ := ((th.2 a _ rfl (.inl ho)).2 ws (List.mem_cons_of_mem _ List.mem_cons_self)).ty
        simp only [stepB, ho, ho']
        rw [worths_same t2 s, len_same t2 s]
      | _ :: _ :: _ :: _, ho, ho' => simp only [stepB, ho, ho']
    | _ => simp only [stepB, ho, ho']
  | _ => rfl
end Af

set_option Elab.async false
set_option linter.all false
set_option maxRecDepth 100000
namespace Af
open PySem L2
/-! a comprehension over zip, a for over enumerate, lists that stand still -/
theorem lc_zip {K : PySem.W.Frag} {a b : Addr} {xs ys : List V} {g : TG} {tt : TT} {te : TE} {vs : List Nat} {σ : L2.St} {H1 : Hp} {D : Addr} {Qd : Hp → Prop} (hl : xs.length = ys.length) (Pv : Nat → Hp → Prop)
    (h0 : Pv 0 (upd H1 D (.lst [])))
    (hq : ∀ i H, i ≤ xs.length → Pv i H → SqL K H a xs ∧ SqL K H b ys)
    (hs : ∀ (i : Nat) (x y : V) (T : Addr) (H : Hp), xs[i]? = some x → ys[i]? = some y → Pv i H → H T = none → g (.ref T) (wipe σ vs) (upd H T (.tup [x, y])) fun σ2 H2 => wipe σ2 vs = wipe σ vs ∧ tt σ2 H2 fun b H3 =>
      if b = true then te σ2 H3 fun y H4 => ∃ acc, H4 D = some (.lst acc) ∧ acc.length < sizeLine ∧ Pv (i + 1) (upd H4 D (.lst (acc ++ [y]))) else Pv (i + 1) H3)
    (hd : ∀ H, Pv xs.length H → Qd H) :
    ∃ W : Nat → Nat → Hp → Prop, (∃ m, W 0 m (upd H1 D (.lst []))) ∧ ∀ i m H, W i m H →
      ((Itz K a b).stop i H ∧ Qd H) ∨ ((Itz K a b).go i H ∧ ∃ Nx : Hp → Prop, (∀ H', Nx H' → ∃ m', m' < m ∧ W (i + 1) m' H') ∧ ∀ x H', (Itz K a b).yld i H x H' → g x (wipe σ vs) H' fun σ2 H2 => wipe σ2 vs = wipe σ vs ∧ tt σ2 H2 fun b H3 =>
        if b = true then te σ2 H3 fun y H4 => ∃ acc, H4 D = some (.lst acc) ∧ acc.length < sizeLine ∧ Nx (upd H4 D (.lst (acc ++ [y]))) else Nx H3) := by
  refine ⟨fun i m H => m = xs.length - i ∧ i ≤ xs.length ∧ Pv i H, ⟨xs.length, rfl, Nat.zero_le _, h0⟩, fun i m H z => ?_⟩
  obtain ⟨em, hi, p⟩ := z
  subst em
  obtain ⟨q1, q2⟩ := hq i H hi p
  by_cases hlt : i < xs.length
  · have hlt2 : i < ys.length := hl ▸ hlt
    refine .inr ⟨⟨xs, ys, xs[i], ys[i], q1, q2, List.getElem?_eq_getElem hlt, List.getElem?_eq_getElem hlt2⟩, Pv (i + 1), fun H' p' => ⟨xs.length - (i + 1), by omega, rfl, hlt, p'⟩, fun v H' y => ?_⟩
    obtain ⟨T, x, y', e1, hT, e2, hx, hy⟩ := y
    subst e1 e2
    exact hs i x y' T H (hx xs q1) (hy ys q2) p hT
  · have e : i = xs.length := Nat.le_antisymm hi (Nat.le_of_not_lt hlt)
    subst e
    exact .inl ⟨⟨xs, ys, q1, q2, .inl (Nat.le_refl _)⟩, hd H p⟩
theorem for_enum {K : PySem.W.Frag} {a : Addr} {xs : List V} {g : TG} {tb : TS} {D : Ends} {σ : L2.St} {H : Hp} (Pv : Nat → L2.St → Hp → Prop) (h0 : Pv 0 σ H)
    (hq : ∀ i σ H, i ≤ xs.length → Pv i σ H → SqL K H a xs)
    (hs : ∀ (i : Nat) (x : V) (T : Addr) (σ : L2.St) (H : Hp), xs[i]? = some x → Pv i σ H → H T = none → g (.ref T) σ (upd H T (.tup [.int (i : Nat), x])) fun σ2 H2 => tb { D with nx := Pv (i + 1), ct := Pv (i + 1), bk := D.nx } σ2 H2)
    (hd : ∀ σ H, Pv xs.length σ H → D.nx σ H) :
    ∃ W : Nat → Nat → L2.St → Hp → Prop, (∃ m, W 0 m σ H) ∧ ∀ i m σ H, W i m σ H →
      ((Ite K a).stop i H ∧ D.nx σ H) ∨ ((Ite K a).go i H ∧ ∃ N : L2.St → Hp → Prop, (∀ σ' H', N σ' H' → ∃ m', m' < m ∧ W (i + 1) m' σ' H') ∧ ∀ v H', (Ite K a).yld i H v H' → g v σ H' fun σ2 H2 => tb { D with nx := N, ct := N, bk := D.nx } σ2 H2) := by
  refine ⟨fun i m σ H => m = xs.length - i ∧ i ≤ xs.length ∧ Pv i σ H, ⟨xs.length, rfl, Nat.zero_le _, h0⟩, fun i m σ H z => ?_⟩
  obtain ⟨em, hi, p⟩ := z
  subst em
  have q1 := hq i σ H hi p
  by_cases hlt : i < xs.length
  · refine .inr ⟨⟨xs, xs[i], q1, List.getElem?_eq_getElem hlt⟩, Pv (i + 1), fun σ' H' p' => ⟨xs.length - (i + 1), by omega, rfl, hlt, p'⟩, fun v H' y => ?_⟩
    obtain ⟨T, x, e1, hT, e2, hx⟩ := y
    subst e1 e2
    exact hs i x T σ H (hx xs q1) p hT
  · have e : i = xs.length := Nat.le_antisymm hi (Nat.le_of_not_lt hlt)
    subst e
    exact .inl ⟨⟨xs, q1, Nat.le_refl _⟩, hd σ H p⟩
theorem int_at {ns : List Int} {i : Nat} {x : V} (h : (ivs ns)[i]? = some x) : ∃ z, x = .int z := by
  unfold ivs at h
  rw [List.getElem?_map] at h
  cases e : ns[i]? with
  | none =>
    rw [e] at h
    cases h
  | some z =>
    rw [e] at h
    exact ⟨z, (Option.some.inj h).symm⟩
end Af

set_option Elab.async false
set_option linter.all false
set_option maxRecDepth 100000
namespace Af
open PySem PySem.Spec PyProof.Rows L2
/-! steps and plans as data, equal or not -/
def stepD : Stp → PyData
  | none => .none
  | some (f, ws) => .tuple [.int f, .tuple (dvs ws)]
def stepsD : List Stp → List PyData
  | [] => []
  | a :: r => stepD a :: stepsD r
theorem dp_step {K : PySem.W.Frag} {H : Hp} : ∀ {x : V} {st : Stp}, StepV H x st → Dp K H x (stepD st)
  | _, none, h => by
    have e : _ = V.non := h
    subst e
    exact .non
  | _, some (f, ws), h => by
    obtain ⟨a, b, rfl, h1, h2⟩ := h
    exact .tup (SqT.of h1) (.cons (.int f) (.cons (.tup (SqT.of h2) (dp_ints ws)) .nil))
theorem dp_steps {K : PySem.W.Frag} {H : Hp} : ∀ {xs : List V} {sts : List Stp}, Paired (StepV H) xs sts → DpAll K H xs (stepsD sts)
  | _, _, .nil => .nil
  | _, _, .cons h t => .cons (dp_step h) (dp_steps t)
theorem lay_step : ∀ st : Stp, (stepD st).canLay0 = true ∧ (stepD st).depth ≤ 2
  | none => ⟨rfl, by decide⟩
  | some (f, ws) => by
    refine ⟨?_, ?_⟩
    · show (PyData.canLay0 (.int f) && (PyData.canLayAll0 (dvs ws) && true)) = true
      rw [lay_ints]
      rfl
    · show max (PyData.depth (.int f)) (max (PyData.depthAll (dvs ws) + 1) 0) + 1 ≤ 2
      rw [deep_ints]
      show max 0 (max (0 + 1) 0) + 1 ≤ 2
      decide
theorem lay_steps : ∀ sts : List Stp, PyData.canLayAll0 (stepsD sts) = true ∧ PyData.depthAll (stepsD sts) ≤ 2
  | [] => ⟨rfl, by decide⟩
  | a :: r => by
    obtain ⟨h1, h2⟩ := lay_step a
    obtain ⟨h3, h4⟩ := lay_steps r
    refine ⟨?_, ?_⟩
    · show (PyData.canLay0 (stepD a) && PyData.canLayAll0 (stepsD r)) = true
      rw [h1, h3]
      rfl
    · show max (PyData.depth (stepD a)) (PyData.depthAll (stepsD r)) ≤ 2
      omega
theorem sh_ints (ns : List Int) : SeqAt.shaped (.tuple (dvs ns)) = true := by
  show (PyData.canLayAll0 (dvs ns) && decide (PyData.depthAll (dvs ns) + 1 ≤ 64)) = true
  rw [lay_ints, deep_ints]
  rfl
theorem sh_int (n : Int) : SeqAt.shaped (.int n) = true := rfl
theorem sh_steps (sts : List Stp) : SeqAt.shaped (.list (stepsD sts)) = true := by
  obtain ⟨h1, h2⟩ := lay_steps sts
  show (PyData.canLayAll0 (stepsD sts) && decide (PyData.depthAll (stepsD sts) + 1 ≤ 64)) = true
  rw [h1, decide_eq_true (by omega)]
  rfl
def planD (pl : Pl) : PyData := .tuple [.tuple (dvs pl.cs), .int pl.w, .list (stepsD pl.sts)]
theorem sh_plan (pl : Pl) : SeqAt.shaped (planD pl) = true := by
  obtain ⟨h1, h2⟩ := lay_steps pl.sts
  show ((PyData.canLayAll0 (dvs pl.cs) && (true && (PyData.canLayAll0 (stepsD pl.sts) && true))) && decide (max (PyData.depthAll (dvs pl.cs) + 1) (max 0 (max (PyData.depthAll (stepsD pl.sts) + 1) 0)) + 1 ≤ 64)) = true
  rw [h1, lay_ints, deep_ints, decide_eq_true (by omega)]
  rfl
theorem dp_plan {K : PySem.W.Frag} {H : Hp} {p : Addr} {v : V} {pl : Pl} (h : PlanV p H v pl) : Dp K H v (planD pl) := by
  obtain ⟨a, ca, sa, xs, rfl, h1, h2, _, h3, h4⟩ := h.ex
  exact .tup (SqT.of h1) (.cons (.tup (SqT.of h2) (dp_ints _)) (.cons (.int _) (.cons (.lst (SqL.of h3) (dp_steps h4)) .nil)))
/-- what == of two plans is -/
def samePl (a b : Pl) : Bool := PyData.eqv (.tuple (dvs a.cs)) (.tuple (dvs b.cs)) && (PyData.eqv (.int a.w) (.int b.w) && PyData.eqv (.list (stepsD a.sts)) (.list (stepsD b.sts)))
theorem same_planD (a b : Pl) : PyData.eqv (planD a) (planD b) = samePl a b := by
  show (PyData.eqv (.tuple (dvs a.cs)) (.tuple (dvs b.cs)) && (PyData.eqv (.int a.w) (.int b.w) && (PyData.eqv (.list (stepsD a.sts)) (.list (stepsD b.sts)) && true))) = _
  rw [Bool.and_true]
  rfl
mutual
theorem eqv_comm : ∀ a b : PyData, PyData.eqv a b = PyData.eqv b a
  | .none, b => by cases b <;> rfl
  | .bool x, b => by
    cases b with
    | bool y => cases x <;> cases y <;> rfl
    | int j =>
      show ((if x = true then (1 : Int) else 0) == j) = (j == (if x = true then (1 : Int) else 0))
      exact BEq.comm
    | _ => rfl
  | .int x, b => by
    cases b with
    | int y =>
      show (x == y) = (y == x)
      exact BEq.comm
    | bool y =>
      show (x == (if y = true then (1 : Int) else 0)) = ((if y = true then (1 : Int) else 0) == x)
      exact BEq.comm
    | _ => rfl
  | .str x, b => by
    cases b with
    | str y =>
      show (x == y) = (y == x)
      exact BEq.comm
    | _ => rfl
  | .list xs, b => by
    cases b with
    | list ys => exact eqvAll_comm xs ys
    | _ => rfl
  | .tuple xs, b => by
    cases b with
    | tuple ys => exact eqvAll_comm xs ys
    | _ => rfl
  | .dict xs, b => by cases b <;> rfl
theorem eqvAll_comm : ∀ xs ys : List PyData, PyData.eqvAll xs ys = PyData.eqvAll ys xs
  | [], [] => rfl
  | [], _ :: _ => rfl
  | _ :: _, [] => rfl
  | x :: xs, y :: ys => by
    show (PyData.eqv x y && PyData.eqvAll xs ys) = (PyData.eqv y x && PyData.eqvAll ys xs)
    rw [eqv_comm x y, eqvAll_comm xs ys]
end
theorem same_comm (a b : Pl) : samePl a b = samePl b a := by
  rw [← same_planD, ← same_planD]
  exact eqv_comm _ _
theorem same_refl (a : Pl) : samePl a a = true := by
  rw [← same_planD]
  have := sh_plan a
  exact PySem.SeqAt.eqv_refl _ (Bool.and_eq_true_iff.mp this).1
/-! xs.count(None) -/
def rCntN (K : PySem.W.Frag) : V → List V → Hp → VK → Prop := fun x xs H Q => ∃ (p : Addr) (ys : List V) (ds : List PyData), x = .ref p ∧ xs = [.non] ∧ SqL K H p ys ∧ DpAll K H ys ds ∧ PyData.canLayAll0 ds = true ∧ ∀ n : Nat, Q (.int (n : Nat)) H
theorem mt_countN {X : Cx} (hu : X.A.units + 1 < cLine) : MtR X "list.count" (rCntN X.K) := by
  intro pins s σ H x xs v us Q I rx rxs h
  obtain ⟨p, ys, ds, rfl, rfl, hs, hd, hl, q⟩ := h
  cases (show v = Value.ref p from rx)
  obtain ⟨u, rfl, ru⟩ := rxs.one
  cases (show u = Value.none from ru)
  obtain ⟨its, rv, pl, _⟩ := I.list hs
  obtain ⟨as, rs⟩ := Dp.readsAll I ds ys its hd rv
  refine PySem.SeqAt.count_list_data (d := .none) (vs := its.toArray) pl.isList (by simpa using rs) Reads.none (PyData.plainAll_of_canLay0 _ hl) rfl (by show X.A.units + 1 + min _ 0 < cLine; omega) ?_
  exact ⟨.int (ds.countP (fun y => PyData.eqv y .none) : Nat), H, I.tok _, ⟨_, rfl⟩, q _⟩
/-! xs[::-1] -/
theorem pe_up {X : Cx} {e : Expr} {te : TE} (he : PE X e te) : PE X e (fun σ H R => ∃ R0 : VK, te σ H R0 ∧ ∀ x H1, R0 x H1 → R x H1) := ⟨fun pins s σ H R I q => by
  obtain ⟨R0, q1, q2⟩ := q
  refine thn (he.run pins s σ H R0 I q1) fun v s1 z => ?_
  obtain ⟨x, H1, I1, r1, q⟩ := z
  exact ⟨x, H1, I1, r1, q2 _ _ q⟩⟩
theorem pe_rev' {X : Cx} {e : Expr} {te : TE} {k : Nat} {p1 p2 p3 pos : Pos} (he : PE X e te) : PE X (.Subscript e (.Slice none none (some (.UnaryOp .USub (.Constant (.int 1) k p1) p2)) p3) pos) (tRev' te) := by
  have h := pe_revL (p1 := p1) (p2 := p2) (p3 := p3) (pos := pos) (k := k) (pe_up he)
  refine ⟨fun pins s σ H Q I q => h.run pins s σ H Q I ⟨_, q, fun x H1 z => ?_⟩⟩
  obtain ⟨a, xs, e, ha, q⟩ := z
  exact ⟨a, xs, e, SqL.of ha, q.mk⟩
end Af

set_option Elab.async false
set_option linter.all false
set_option maxRecDepth 100000
namespace Af
/-! a write broken into pieces: cell by cell (as the law does it), and by the cuts (as the program does it) -/
def spl (w : Int) : Int → List Int → Int → List Int → List (Int × List Int)
  | st, acc, _, [] => [(st, acc)]
  | st, acc, pos, x :: r => if acc ≠ [] ∧ pos % w = 0 then (st, acc) :: spl w pos [x] (pos + 1) r else spl w st (acc ++ [x]) (pos + 1) r
/-- the cuts among n cells from pos on -/
def cutL (w : Int) : Int → Nat → List Int
  | _, 0 => []
  | pos, n + 1 => if pos % w = 0 then pos :: cutL w (pos + 1) n else cutL w (pos + 1) n
/-- the part from s to e of the worths that begin at the cell f -/
def part (f : Int) (W : List Int) (s e : Int) : List Int := (W.drop (s - f).toNat).take ((e - f).toNat - (s - f).toNat)
def byCuts (f : Int) (W : List Int) : Int → List Int → Int → List (Int × List Int)
  | s, [], e => [(s, part f W s e)]
  | s, c :: cs, e => (s, part f W s c) :: byCuts f W c cs e
theorem zip_cuts (f : Int) (W : List Int) : ∀ (s : Int) (cs : List Int) (e : Int), ((s :: cs).zip (cs ++ [e])).map (fun p => (p.1, part f W p.1 p.2)) = byCuts f W s cs e
  | s, [], e => rfl
  | s, c :: cs, e => by
    show (s, part f W s c) :: ((c :: cs).zip (cs ++ [e])).map (fun p => (p.1, part f W p.1 p.2)) = (s, part f W s c) :: byCuts f W c cs e
    rw [zip_cuts f W c cs e]
theorem part_mid {f : Int} {pre acc r : List Int} {s e : Int} (hs : s = f + (pre.length : Int)) (he : e = s + (acc.length : Int)) : part f (pre ++ (acc ++ r)) s e = acc := by
  have e1 : (s - f).toNat = pre.length := by omega
  have e2 : (e - f).toNat - (s - f).toNat = acc.length := by omega
  unfold part
  rw [e2, e1, List.drop_left, List.take_left]
theorem spl_cuts {w f : Int} : ∀ (r pre acc : List Int) (st pos : Int), acc ≠ [] → st = f + (pre.length : Int) → pos = st + (acc.length : Int) →
    spl w st acc pos r = byCuts f (pre ++ (acc ++ r)) st (cutL w pos r.length) (pos + (r.length : Int))
  | [], pre, acc, st, pos, ne, hs, hp => by
    show [(st, acc)] = [(st, part f (pre ++ (acc ++ [])) st (pos + 0))]
    rw [part_mid hs (by omega)]
  | x :: r, pre, acc, st, pos, ne, hs, hp => by
    have le : (((x :: r).length : Nat) : Int) = (r.length : Int) + 1 := by rw [List.length_cons]; rfl
    by_cases c : pos % w = 0
    · have ih := spl_cuts (w := w) (f := f) r (pre ++ acc) [x] pos (pos + 1) (by simp) (by rw [List.length_append]; omega) (by show pos + 1 = pos + ((1 : Nat) : Int); omega)
      have e : (pre ++ acc) ++ ([x] ++ r) = pre ++ (acc ++ (x :: r)) := by simp
      rw [e] at ih
      show (if acc ≠ [] ∧ pos % w = 0 then (st, acc) :: spl w pos [x] (pos + 1) r else spl w st (acc ++ [x]) (pos + 1) r) = byCuts f (pre ++ (acc ++ (x :: r))) st (if pos % w = 0 then pos :: cutL w (pos + 1) r.length else cutL w (pos + 1) r.length) _
      rw [if_pos ⟨ne, c⟩, if_pos c, ih, le, show pos + ((r.length : Int) + 1) = pos + 1 + (r.length : Int) by omega]
      show _ = (st, part f (pre ++ (acc ++ (x :: r))) st pos) :: _
      rw [part_mid hs hp]
    · have ih := spl_cuts (w := w) r pre (acc ++ [x]) st (pos + 1) (by simp) hs (by rw [List.length_append]; show pos + 1 = st + ((acc.length + 1 : Nat) : Int); omega)
      have e : pre ++ ((acc ++ [x]) ++ r) = pre ++ (acc ++ (x :: r)) := by simp
      rw [e] at ih
      show (if acc ≠ [] ∧ pos % w = 0 then (st, acc) :: spl w pos [x] (pos + 1) r else spl w st (acc ++ [x]) (pos + 1) r) = byCuts f (pre ++ (acc ++ (x :: r))) st (if pos % w = 0 then pos :: cutL w (pos + 1) r.length else cutL w (pos + 1) r.length) _
      rw [if_neg (fun z => c z.2), if_neg c, ih, le, show pos + ((r.length : Int) + 1) = pos + 1 + (r.length : Int) by omega]
/-- both ways lead to the same pieces -/
theorem pieces_same {w f : Int} {ws : List Int} (ne : ws ≠ []) : spl w f [] f ws = byCuts f ws f (cutL w (f + 1) (ws.length - 1)) (f + (ws.length : Int)) := by
  cases ws with
  | nil => exact absurd rfl ne
  | cons x r =>
    have h := spl_cuts (w := w) (f := f) r [] [x] f (f + 1) (by simp) (by show f = f + ((0 : Nat) : Int); omega) (by show f + 1 = f + ((1 : Nat) : Int); omega)
    show (if ([] : List Int) ≠ [] ∧ f % w = 0 then _ else spl w f ([] ++ [x]) (f + 1) r) = _
    rw [if_neg (fun z => z.1 rfl)]
    have e : (((x :: r).length : Nat) : Int) = (r.length : Int) + 1 := by rw [List.length_cons]; rfl
    rw [e, show f + ((r.length : Int) + 1) = f + 1 + (r.length : Int) by omega]
    exact h
end Af

set_option Elab.async false
set_option linter.all false
set_option maxRecDepth 100000
namespace Af
open PySem L2
/-- a drawn plan whose list of steps is neither the pen's nor the one at l -/
structure PlanL (p l : Addr) (H : Hp) (v : V) (pl : Pl) : Prop where
  ex : ∃ a ca sa xs, v = .ref a ∧ H a = some (.tup [.ref ca, .int pl.w, .ref sa]) ∧ H ca = some (.tup (ivs pl.cs)) ∧ sa ≠ p ∧ sa ≠ l ∧ H sa = some (.lst xs) ∧ Paired (StepV H) xs pl.sts
theorem PlanL.v {p l : Addr} {H : Hp} {v : V} {pl : Pl} (h : PlanL p l H v pl) : PlanV p H v pl := by
  obtain ⟨a, ca, sa, xs, e, h1, h2, n, _, h3, h4⟩ := h.ex
  exact ⟨a, ca, sa, xs, e, h1, h2, n, h3, h4⟩
theorem PlanV.toL {p l : Addr} {H H' : Hp} {v : V} {pl : Pl} (h : PlanV p H v pl) (n : H l = none) (s : Same H H') : PlanL p l H' v pl := by
  obtain ⟨a, ca, sa, xs, e, h1, h2, np, h3, h4⟩ := h.ex
  exact ⟨a, ca, sa, xs, e, s _ _ h1, s _ _ h2, np, ne_of_none h3 n, s _ _ h3, steps_same s h4⟩
theorem PlanL.same {p l : Addr} {H H' : Hp} {v : V} {pl : Pl} (h : PlanL p l H v pl) (s : Same H H') : PlanL p l H' v pl := by
  obtain ⟨a, ca, sa, xs, e, h1, h2, np, nl, h3, h4⟩ := h.ex
  exact ⟨a, ca, sa, xs, e, s _ _ h1, s _ _ h2, np, nl, s _ _ h3, steps_same s h4⟩
theorem kp_upd {l : Addr} {H : Hp} {ys zs : List V} (e : H l = some (.lst ys)) : Kp l H (L2.upd H l (.lst zs)) := fun a o n k => by
  by_cases z : a = l
  · rcases n with n | n
    · exact absurd z n
    · rw [z, e] at k
      exact absurd (Option.some.inj k).symm (n ys)
  · rw [upd_ne z]
    exact k
theorem PlanL.upd {p l : Addr} {H : Hp} {v : V} {pl : Pl} {ys zs : List V} (h : PlanL p l H v pl) (e : H l = some (.lst ys)) : PlanL p l (L2.upd H l (.lst zs)) v pl := by
  have k := kp_upd (zs := zs) e
  obtain ⟨a, ca, sa, xs, e, h1, h2, np, nl, h3, h4⟩ := h.ex
  exact ⟨a, ca, sa, xs, e, k.tup h1, k.tup h2, np, nl, k.lst nl h3, steps_kp k h4⟩
/-- a list of plans that the program takes -/
def PlansL (p l : Addr) (H : Hp) (vs : List V) : Prop := ∀ v ∈ vs, ∃ pl, PlanL p l H v pl ∧ Good 40 40 pl
def Plans (p : Addr) (H : Hp) (vs : List V) : Prop := ∀ v ∈ vs, ∃ pl, PlanV p H v pl ∧ Good 40 40 pl
theorem Plans.toL {p l : Addr} {H H' : Hp} {vs : List V} (h : Plans p H vs) (n : H l = none) (s : Same H H') : PlansL p l H' vs := fun v hv => by
  obtain ⟨pl, h1, h2⟩ := h v hv
  exact ⟨pl, h1.toL n s, h2⟩
theorem PlansL.v {p l : Addr} {H : Hp} {vs : List V} (h : PlansL p l H vs) : Plans p H vs := fun v hv => by
  obtain ⟨pl, h1, h2⟩ := h v hv
  exact ⟨pl, h1.v, h2⟩
theorem PlansL.same {p l : Addr} {H H' : Hp} {vs : List V} (h : PlansL p l H vs) (s : Same H H') : PlansL p l H' vs := fun v hv => by
  obtain ⟨pl, h1, h2⟩ := h v hv
  exact ⟨pl, h1.same s, h2⟩
theorem PlansL.upd {p l : Addr} {H : Hp} {vs ys zs : List V} (h : PlansL p l H vs) (e : H l = some (.lst ys)) : PlansL p l (L2.upd H l (.lst zs)) vs := fun v hv => by
  obtain ⟨pl, h1, h2⟩ := h v hv
  exact ⟨pl, h1.upd e, h2⟩
theorem PlansL.app {p l : Addr} {H : Hp} {vs us : List V} (h : PlansL p l H vs) (k : PlansL p l H us) : PlansL p l H (vs ++ us) := fun v hv => by
  rcases List.mem_append.mp hv with hv | hv
  · exact h v hv
  · exact k v hv
theorem PlansL.one {p l : Addr} {H : Hp} {v : V} {pl : Pl} (h : PlanL p l H v pl) (g : Good 40 40 pl) : PlansL p l H [v] := fun u hu => by
  rw [List.mem_singleton.mp hu]
  exact ⟨pl, h, g⟩
theorem Plans.nil {p : Addr} {H : Hp} : Plans p H [] := fun v hv => by simp at hv
theorem Plans.app {p : Addr} {H : Hp} {vs us : List V} (h : Plans p H vs) (k : Plans p H us) : Plans p H (vs ++ us) := fun v hv => by
  rcases List.mem_append.mp hv with hv | hv
  · exact h v hv
  · exact k v hv
theorem Plans.cons {p : Addr} {H : Hp} {v : V} {vs : List V} {pl : Pl} (h : PlanV p H v pl) (g : Good 40 40 pl) (k : Plans p H vs) : Plans p H (v :: vs) := fun u hu => by
  rcases List.mem_cons.mp hu with rfl | hu
  · exact ⟨pl, h, g⟩
  · exact k u hu
theorem Plans.same {p : Addr} {H H' : Hp} {vs : List V} (h : Plans p H vs) (s : Same H H') : Plans p H' vs := fun v hv => by
  obtain ⟨pl, h1, h2⟩ := h v hv
  exact ⟨pl, h1.same s, h2⟩
/-- a plan changed at one place -/
theorem Good.cells {pl : Pl} {cs : List Int} (g : Good 40 40 pl) (c1 : pl.cs.length ≤ cs.length) (c2 : cs.length ≤ 24) (cb : ∀ z ∈ cs, 0 ≤ z ∧ z < 8) : Good 40 40 ⟨cs, pl.w, pl.sts⟩ := by
  refine ⟨Nat.le_trans g.c1 c1, c2, cb, g.w1, g.w24, fun x hx => ?_, g.sl, g.tl⟩
  have o := g.st x hx
  cases x with
  | none => exact True.intro
  | some fw =>
    obtain ⟨f, ws⟩ := fw
    obtain ⟨o1, o2, o3, o4⟩ := o
    exact ⟨o1, o2, by show f + (ws.length : Int) ≤ (cs.length : Int); omega, o4⟩
theorem Good.width {pl : Pl} {w : Int} (g : Good 40 40 pl) (h1 : 1 ≤ w) (h2 : w ≤ 24) : Good 40 40 ⟨pl.cs, w, pl.sts⟩ := ⟨g.c1, g.c24, g.cb, h1, h2, g.st, g.sl, g.tl⟩
theorem Good.steps {s t : Nat} {pl : Pl} {sts : List Stp} (g : Good s t pl) (h : ∀ x ∈ sts, OkS pl.cs.length x) (h1 : sts.length ≤ 40) (h2 : tot sts ≤ 40) : Good 40 40 ⟨pl.cs, pl.w, sts⟩ := ⟨g.c1, g.c24, g.cb, g.w1, g.w24, h, h1, h2⟩
theorem tot_drop_le (l : List Stp) (n : Nat) : tot (l.drop n) ≤ tot l := by
  have := tot_take_drop l n
  omega
/-- one step taken out, another one put in its place -/
theorem steps_at {l : List Stp} {i : Nat} {a b : Stp} {n : Nat} (hi : l[i]? = some a) (hb : stl b = stl a) (ob : OkS n b) (ok : ∀ x ∈ l, OkS n x) :
    (∀ x ∈ (l.take i ++ [b]) ++ l.drop (i + 1), OkS n x) ∧ ((l.take i ++ [b]) ++ l.drop (i + 1)).length = l.length ∧ tot ((l.take i ++ [b]) ++ l.drop (i + 1)) = tot l := by
  have hlt : i < l.length := (List.getElem?_eq_some_iff.mp hi).1
  have e : l.drop i = a :: l.drop (i + 1) := by
    rw [List.drop_eq_getElem_cons hlt]
    congr 1
    rw [List.getElem?_eq_getElem hlt] at hi
    exact Option.some.inj hi
  refine ⟨fun x hx => ?_, ?_, ?_⟩
  · rcases List.mem_append.mp hx with hx | hx
    · rcases List.mem_append.mp hx with hx | hx
      · exact ok x (List.mem_of_mem_take hx)
      · rw [List.mem_singleton.mp hx]
        exact ob
    · exact ok x (List.mem_of_mem_drop hx)
  · rw [List.length_append, List.length_append, List.length_take, List.length_drop]
    show min i l.length + 1 + (l.length - (i + 1)) = l.length
    omega
  · rw [tot_app, tot_app, tot_one, hb]
    have t := tot_take_drop l i
    rw [e, tot_cons] at t
    omega
end Af

set_option Elab.async false
set_option linter.all false
set_option maxRecDepth 100000
namespace Af
open PySem L2
/-- a piece: the step that it is of, its first cell, its worths -/
def PieceE (H : Hp) (ix : Int) (x : V) (p : Int × List Int) : Prop := ∃ t b, x = .ref t ∧ H t = some (.tup [.int ix, .int p.1, .ref b]) ∧ H b = some (.tup (ivs p.2))
theorem PieceE.kp {q : Addr} {H H' : Hp} {ix : Int} {x : V} {p : Int × List Int} (k : Kp q H H') (h : PieceE H ix x p) : PieceE H' ix x p := by
  obtain ⟨t, b, e, h1, h2⟩ := h
  exact ⟨t, b, e, k.tup h1, k.tup h2⟩
theorem pieces_kp {q : Addr} {H H' : Hp} {ix : Int} {xs : List V} {ps : List (Int × List Int)} (k : Kp q H H') (h : Paired (PieceE H ix) xs ps) : Paired (PieceE H' ix) xs ps := L2.Paired.mapP h fun _ _ z => z.kp k
theorem pieces_st {H H' : Hp} {ix : Int} {xs : List V} {ps : List (Int × List Int)} (k : Same H H') (h : Paired (PieceE H ix) xs ps) : Paired (PieceE H' ix) xs ps := pieces_kp (q := 0) (Kp.same k) h
theorem spl_go {w st pos x : Int} {acc r : List Int} (c : ¬ (acc ≠ [] ∧ pos % w = 0)) : spl w st acc pos (x :: r) = spl w st (acc ++ [x]) (pos + 1) r := by
  show (if acc ≠ [] ∧ pos % w = 0 then _ else _) = _
  rw [if_neg c]
theorem spl_cut {w st pos x : Int} {acc r : List Int} (c : acc ≠ [] ∧ pos % w = 0) : spl w st acc pos (x :: r) = (st, acc) :: spl w pos [x] (pos + 1) r := by
  show (if acc ≠ [] ∧ pos % w = 0 then _ else _) = _
  rw [if_pos c]
def sp_split : Sp := fun vs H Q _ => ∃ (ix f sp : Int) (a b : Addr) (ws : List Int), vs = [.int ix, .ref a, .int sp] ∧ H a = some (.tup [.int f, .ref b]) ∧ H b = some (.tup (ivs ws)) ∧ 0 < sp ∧ ws.length ≤ 1000 ∧
  ∀ l H' xs, Same H H' → H l = none → H' l = some (.lst xs) → Paired (PieceE H' ix) xs (spl sp f [] f ws) → Q (.ref l) H'
section
variable {P : Program} {w : World} {K : PySem.W.Frag} {mg : Str → Option Value} {base : Heap}
end
end Af

set_option Elab.async false
set_option linter.all false
set_option maxRecDepth 100000
namespace Af
open PySem L2
theorem cutL_snoc (w : Int) : ∀ (n : Nat) (pos : Int), cutL w pos (n + 1) = cutL w pos n ++ (if (pos + (n : Int)) % w = 0 then [pos + (n : Int)] else [])
  | 0, pos => by
    show (if pos % w = 0 then pos :: cutL w (pos + 1) 0 else cutL w (pos + 1) 0) = [] ++ (if (pos + ((0 : Nat) : Int)) % w = 0 then [pos + ((0 : Nat) : Int)] else [])
    rw [show pos + ((0 : Nat) : Int) = pos by omega]
    rfl
  | n + 1, pos => by
    have ih := cutL_snoc w n (pos + 1)
    have e : pos + 1 + (n : Int) = pos + ((n + 1 : Nat) : Int) := by omega
    rw [e] at ih
    show (if pos % w = 0 then pos :: cutL w (pos + 1) (n + 1) else cutL w (pos + 1) (n + 1)) = (if pos % w = 0 then pos :: cutL w (pos + 1) n else cutL w (pos + 1) n) ++ _
    rw [ih]
    by_cases c : pos % w = 0
    · rw [if_pos c, if_pos c]
      rfl
    · rw [if_neg c, if_neg c]
theorem cutL_in {w : Int} : ∀ {n : Nat} {pos z : Int}, z ∈ cutL w pos n → pos ≤ z ∧ z < pos + (n : Int)
  | 0, pos, z, h => by cases h
  | n + 1, pos, z, h => by
    have k : z = pos ∨ z ∈ cutL w (pos + 1) n := by
      by_cases c : pos % w = 0
      · rw [show cutL w pos (n + 1) = pos :: cutL w (pos + 1) n from if_pos c] at h
        exact List.mem_cons.mp h
      · rw [show cutL w pos (n + 1) = cutL w (pos + 1) n from if_neg c] at h
        exact .inr h
    rcases k with rfl | k
    · omega
    · have := cutL_in k
      omega
theorem cutL_len {w : Int} : ∀ (n : Nat) (pos : Int), (cutL w pos n).length ≤ n
  | 0, _ => Nat.le_refl 0
  | n + 1, pos => by
    have ih := cutL_len (w := w) n (pos + 1)
    by_cases c : pos % w = 0
    · rw [show cutL w pos (n + 1) = pos :: cutL w (pos + 1) n from if_pos c, List.length_cons]
      omega
    · rw [show cutL w pos (n + 1) = cutL w (pos + 1) n from if_neg c]
      omega
/-- the slice of the program is that part -/
theorem slice_part {f s e : Int} {ws : List Int} (h1 : f ≤ s) (h2 : f ≤ e) (h3 : s ≤ f + (ws.length : Int)) (h4 : e ≤ f + (ws.length : Int)) : cutV (ivs ws) (some (s - f)) (some (e - f)) = ivs (part f ws s e) := by
  obtain ⟨a, ha⟩ := Int.eq_ofNat_of_zero_le (show 0 ≤ s - f by omega)
  obtain ⟨b, hb⟩ := Int.eq_ofNat_of_zero_le (show 0 ≤ e - f by omega)
  unfold cutV part
  rw [ha, hb, HT.sIx_nat, HT.sIx_nat, ivs_len, Nat.min_eq_left (by omega), Nat.min_eq_left (by omega)]
  show ((ivs ws).drop a).take (b - a) = ivs ((ws.drop (a : Int).toNat).take ((b : Int).toNat - (a : Int).toNat))
  rw [Int.toNat_natCast, Int.toNat_natCast]
  unfold ivs
  rw [List.map_take, List.map_drop]
end Af

set_option Elab.async false
set_option linter.all false
set_option maxRecDepth 100000
set_option maxHeartbeats 4000000
namespace Af
open PySem L2
abbrev s_broken : Stmt := top 22
abbrev N_broken : List Str := ["width", "index", "write", "first", "worths", "behind", "cuts", "starts", "ends", "cell", "start", "end"]
theorem sc_broken : FnScope N_broken ["width", "index", "write"] (defScope s_broken) := ⟨rfl, rfl, rfl, by decide +kernel, rfl, by decide +kernel, by decide +kernel⟩

theorem paired_take_succ {α β : Type} {F : α → β → Prop} {a : List α} {b : List β} {i : Nat} {y : β} (h : Paired F a (b.take i)) (x : α) (hx : F x y) (hb : b[i]? = some y) : Paired F (a ++ [x]) (b.take (i + 1)) := by
  rw [List.take_add_one, hb]
  exact paired_app h (.cons hx .nil)
def sp_brokenX : Sp := fun vs H Q _ => ∃ (wd ix f : Int) (t b : Addr) (ws : List Int), vs = [.int wd, .int ix, .ref t] ∧ H t = some (.tup [.int f, .ref b]) ∧ H b = some (.tup (ivs ws)) ∧ 0 < wd ∧ 0 ≤ f ∧ f ≤ 1000 ∧ ws ≠ [] ∧ ws.length ≤ 100 ∧
  ∀ l H' xs, Same H H' → H l = none → H' l = some (.lst xs) → Paired (PieceE H' ix) xs (spl wd f [] f ws) → Q (.ref l) H'
section
variable {P : Program} {w : World} {K : PySem.W.Frag} {mg : Str → Option Value} {base : Heap}
theorem ok_brokenX {f : Addr} {fd : FuncData} (F : Fun K "_broken" "_broken" s_broken f fd) (T : Txt mg) : FnOk P w K mg base CX0 1 f fd ["width", "index", "write"] sp_brokenX := by
  refine F.ok sc_broken (fun vs H Q E h => ?_) (fun cdv A outer s H vs Q E hr h => ?_)
  · obtain ⟨_, _, _, _, _, _, rfl, _⟩ := h
    rfl
  obtain ⟨wd, ix, f, t, b, ws, rfl, ht, hb, w0, f0, f1, wn, wl, k⟩ := h
  refine ⟨_, (pss_cons (ps_asg (pv 2) (pg_tup rfl (pgs_cons (pg_name (i := 3) sc_broken.nd rfl (Or.inr rfl)) (pgs_cons (pg_name (i := 4) sc_broken.nd rfl (Or.inr rfl)) pgs_nil))))
    (pss_cons (ps_set (i := 5) sc_broken.nd rfl (Or.inl rfl) (pe_op op_add (pv 3) (pe_callB call_len' (by rfl) T.len (by decide +kernel) (pa_cons (pv 4) pa_nil))))
    (pss_cons (ps_setLc (i := 6) (own := [("cell", 9)]) (g := (gName 9)) rfl sc_broken.nd rfl rfl (sw_true rfl rfl rfl (by decide +kernel)) (pi_range2 rfl T.range (pa_cons (pe_op op_add (pv 3) pe_int) (pa_cons (pv 5) pa_nil))) (blkOk_by (own := [("cell", 9)]) (N := N_broken) (sc := defScope s_broken) (by decide +kernel)) (fun _ _ _ _ _ => pg_name (i := 9) sc_broken.nd rfl (Or.inl rfl)) (fun _ _ _ _ _ => (pts_one (pt_cmpR op_eq (pe_op op_mod (pv 9) (pv 0)) pe_int (nomark _)))) (fun _ _ _ _ _ => (pv 9)))
    (pss_cons (ps_par (i := 7) (j := 8) rfl sc_broken.nd rfl rfl (by decide) rfl rfl (pa_cons (pe_op op_cat' (pe_lst' (pa_cons (pv 3) pa_nil)) (pv 6)) (pa_cons (pe_op op_cat' (pv 6) (pe_lst' (pa_cons (pv 5) pa_nil))) pa_nil)) (by rfl))
    (pss_one (ps_ret (pe_lc (own := [("start", 10), ("end", 11)]) (g := (gTup K 2 (gCons (gName 10) (gCons (gName 11) gNil)))) (tt := tYes) rfl sc_broken.nd (pi_zip rfl T.zip (pa_cons (pv 7) (pa_cons (pv 8) pa_nil))) (blkOk_by (own := [("start", 10), ("end", 11)]) (N := N_broken) (sc := defScope s_broken) (by decide +kernel)) (fun _ _ _ _ _ => pg_tup rfl (pgs_cons (pg_name (i := 10) sc_broken.nd rfl (Or.inl rfl)) (pgs_cons (pg_name (i := 11) sc_broken.nd rfl (Or.inl rfl)) pgs_nil))) (fun _ _ _ _ _ => pts_nil) (fun _ _ _ _ _ => (pe_tup' (pa_cons (pv 1) (pa_cons (pv 10) (pa_cons (pe_slice sl_tup' (pv 4) (po_some (pe_op op_sub (pv 10) (pv 3))) (po_some (pe_op op_sub (pv 11) (pv 3)))) pa_nil)))))))))))), ?_⟩
  refine ⟨_, rfl, t, _, rfl, SqT.of ht, rfl, _, _, rfl, _, _, rfl, rfl, ?_⟩
  refine ⟨_, rfl, _, rfl, b, _, rfl, .inr hb, _, _, rfl, rfl, ?_⟩
  have hln := ivs_len ws
  have hpos : 0 < ws.length := List.length_pos_iff.mpr wn
  refine ⟨_, rfl, _, _, rfl, rfl, _, rfl, f + 1, f + ((ivs ws).length : Int), rfl, ⟨by omega, by omega, by omega, by omega⟩, fun D hD => lc_range (lo := f + 1) (n := (f + ((ivs ws).length : Int) - (f + 1)).toNat) (fun i H' => Same H H' ∧ H' D = some (.lst (ivs (cutL wd (f + 1) i)))) ?_ ?_ ?_⟩
  · exact ⟨same_new hD, upd_same⟩
  · rintro i H' hi ⟨s1, h1⟩
    have sn := cutL_snoc wd i (f + 1)
    have cl := cutL_len (w := wd) i (f + 1)
    refine ⟨rfl, _, rfl, _, rfl, _, _, rfl, rfl, w0, rfl, _, rfl, ite2 (fun y => ?_) (fun y => ⟨s1, ?_⟩)⟩
    · have y' : (f + 1 + (i : Int)) % wd = 0 := V.int.inj (of_decide_eq_true y)
      rw [if_pos y'] at sn
      refine ⟨_, rfl, _, h1, szl (by rw [ivs_len]; omega), same_mut s1 hD, ?_⟩
      rw [upd_same, sn]
      unfold ivs
      rw [List.map_append]
      rfl
    · have y' : ¬ (f + 1 + (i : Int)) % wd = 0 := fun z => y (decide_eq_true (congrArg V.int z))
      rw [if_neg y', List.append_nil] at sn
      rw [sn]
      exact h1
  · rintro H1 ⟨s1, h1⟩
    have en : (f + ((ivs ws).length : Int) - (f + 1)).toNat = ws.length - 1 := by rw [hln]; omega
    rw [en] at h1
    have cin : ∀ z ∈ cutL wd (f + 1) (ws.length - 1), f ≤ z ∧ z ≤ f + (ws.length : Int) := fun z hz => by
      have := cutL_in hz
      omega
    have cl := cutL_len (w := wd) (ws.length - 1) (f + 1)
    have fin := pieces_same (w := wd) (f := f) wn
    rw [← zip_cuts] at fin
    generalize cutL wd (f + 1) (ws.length - 1) = cs at h1 cin cl fin
    refine ⟨_, rfl, szr, fun l2 H2 hl2 s2 h2 => ⟨_, rfl, l2, D, _, _, rfl, rfl, h2, s2 _ _ h1, sz (by show 1 + (ivs cs).length ≤ 100000; rw [ivs_len]; omega), fun sl H3 hsl s3 h3 => ?_⟩⟩
    refine ⟨_, rfl, _, rfl, szr, fun l4 H4 hl4 s4 h4 => ⟨D, l4, _, _, rfl, rfl, s4 _ _ (s3 _ _ (s2 _ _ h1)), h4, sz (by show (ivs cs).length + 1 ≤ 100000; rw [ivs_len]; omega), fun el H5 hel s5 h5 => ⟨_, _, rfl, ?_⟩⟩⟩
    have S := s1.trans (s2.trans (s3.trans (s4.trans s5)))
    have hs5 : H5 sl = some (.lst (ivs (f :: cs))) := s5 _ _ (s4 _ _ h3)
    have he5 : H5 el = some (.lst (ivs (cs ++ [f + (ws.length : Int)]))) := by
      rw [h5, hln]
      unfold ivs
      rw [List.map_append]
      rfl
    have hll : (ivs (f :: cs)).length = (ivs (cs ++ [f + (ws.length : Int)])).length := by
      rw [ivs_len, ivs_len, List.length_append]
      rfl
    refine ⟨_, rfl, _, rfl, sl, el, _, _, rfl, SqL.of hs5, SqL.of he5, fun R hR => lc_zip hll (fun i H' => Same H5 H' ∧ ∃ xs, H' R = some (.lst xs) ∧ xs.length = i ∧ Paired (PieceE H' ix) xs ((((f :: cs).zip (cs ++ [f + (ws.length : Int)])).map (fun p => (p.1, part f ws p.1 p.2))).take i)) ?_ ?_ ?_ ?_⟩
    · exact ⟨same_new hR, [], upd_same, rfl, .nil⟩
    · rintro i H' hi ⟨s6, _⟩
      exact ⟨SqL.of (s6 _ _ hs5), SqL.of (s6 _ _ he5)⟩
    · rintro i x y T' H' hx hy ⟨s6, xs, h6, l6, p6⟩ hT
      have hi : i < (ivs (f :: cs)).length := (List.getElem?_eq_some_iff.mp hx).1
      have hc : (ivs (f :: cs)).length = cs.length + 1 := by rw [ivs_len]; rfl
      have i1 : i < (f :: cs).length := by rw [List.length_cons]; omega
      have i2 : i < (cs ++ [f + (ws.length : Int)]).length := by rw [List.length_append]; show i < cs.length + 1; omega
      rw [ivs_get i1] at hx
      rw [ivs_get i2] at hy
      cases hx
      cases hy
      have m1 : (f :: cs)[i] ∈ f :: cs := List.getElem_mem i1
      have m2 : (cs ++ [f + (ws.length : Int)])[i] ∈ cs ++ [f + (ws.length : Int)] := List.getElem_mem i2
      have zg : (((f :: cs).zip (cs ++ [f + (ws.length : Int)])).map (fun p => (p.1, part f ws p.1 p.2)))[i]? = some ((f :: cs)[i], part f ws (f :: cs)[i] (cs ++ [f + (ws.length : Int)])[i]) := by
        have zz : ((f :: cs).zip (cs ++ [f + (ws.length : Int)]))[i]? = some ((f :: cs)[i], (cs ++ [f + (ws.length : Int)])[i]) := List.getElem?_zip_eq_some.mpr ⟨List.getElem?_eq_getElem i1, List.getElem?_eq_getElem i2⟩
        rw [List.getElem?_map, zz]
        rfl
      generalize (f :: cs)[i] = zx at m1 zg
      generalize (cs ++ [f + (ws.length : Int)])[i] = zy at m2 zg
      have b1 : f ≤ zx ∧ zx ≤ f + (ws.length : Int) := by
        rcases List.mem_cons.mp m1 with rfl | m
        · omega
        · exact cin zx m
      have b2 : f ≤ zy ∧ zy ≤ f + (ws.length : Int) := by
        rcases List.mem_append.mp m2 with m | m
        · exact cin zy m
        · rw [List.mem_singleton.mp m]
          omega
      have s7 : Same H' (upd H' T' (.tup [.int zx, .int zy])) := same_new hT
      have b7 := s7 _ _ (s6 _ _ (S _ _ hb))
      refine ⟨T', _, rfl, SqT.of upd_same, rfl, _, _, rfl, _, _, rfl, rfl, rfl, ?_⟩
      refine ⟨_, rfl, _, rfl, _, rfl, _, rfl, _, rfl, _, _, rfl, rfl, _, rfl, _, rfl, _, rfl, _, _, rfl, rfl, _, rfl, b, _, rfl, b7, fun u H8 s8 h8 => ⟨szr, fun r H9 hr9 s9 h9 => ?_⟩⟩
      have s10 := s7.trans (s8.trans s9)
      have u9 := s9 _ _ h8
      rw [slice_part b1.1 b2.1 b1.2 b2.2] at u9
      have r10 := s10 _ _ h6
      refine ⟨xs, r10, szl (by omega), same_mut (s6.trans s10) hR, _, upd_same, by rw [List.length_append, l6]; rfl, ?_⟩
      have kk := kp_upd (zs := xs ++ [V.ref r]) r10
      exact paired_take_succ (pieces_kp kk (pieces_st s10 p6)) (V.ref r) ⟨r, u, rfl, kk.tup h9, kk.tup u9⟩ zg
    · rintro H' ⟨s6, xs, h6, l6, p6⟩
      refine k R H' xs (S.trans s6) (S.free hR) h6 ?_
      rw [fin]
      have ll : (((f :: cs).zip (cs ++ [f + (ws.length : Int)])).map (fun p => (p.1, part f ws p.1 p.2))).length = (ivs (f :: cs)).length := by
        rw [List.length_map, List.length_zip, List.length_append, ivs_len, List.length_cons]
        show min (cs.length + 1) (cs.length + 1) = cs.length + 1
        omega
      rw [← ll, List.take_length] at p6
      exact p6
end
end Af

set_option Elab.async false
set_option linter.all false
set_option maxRecDepth 100000
set_option maxHeartbeats 4000000
namespace Af
open PySem L2
abbrev s_pieces_of : Stmt := top 21
abbrev N_pieces_of : List Str := ["width", "steps", "pieces", "index", "step"]
theorem sc_pieces_of : FnScope N_pieces_of ["width", "steps"] (defScope s_pieces_of) := ⟨rfl, rfl, rfl, by decide +kernel, rfl, by decide +kernel, by decide +kernel⟩

abbrev s_epochs_of : Stmt := top 23
abbrev N_epochs_of : List Str := ["steps", "epochs", "barriers", "step"]
theorem sc_epochs_of : FnScope N_epochs_of ["steps"] (defScope s_epochs_of) := ⟨rfl, rfl, rfl, by decide +kernel, rfl, by decide +kernel, by decide +kernel⟩

/-- the pieces of one step, of all steps, each with its step's index -/
def oneP (w : Int) (i : Nat) : Stp → List (Int × (Int × List Int))
  | none => []
  | some (f, ws) => (spl w f [] f ws).map fun p => ((i : Int), p)
def allP (w : Int) : Nat → List Stp → List (Int × (Int × List Int))
  | _, [] => []
  | i, s :: r => oneP w i s ++ allP w (i + 1) r
theorem allP_snoc (w : Int) (s : Stp) : ∀ (l : List Stp) (i : Nat), allP w i (l ++ [s]) = allP w i l ++ oneP w (i + l.length) s
  | [], i => by
    show oneP w i s ++ [] = [] ++ oneP w i s
    rw [List.append_nil, List.nil_append]
  | a :: l, i => by
    show oneP w i a ++ allP w (i + 1) (l ++ [s]) = (oneP w i a ++ allP w (i + 1) l) ++ oneP w (i + (l.length + 1)) s
    rw [allP_snoc w s l (i + 1), List.append_assoc, show i + 1 + l.length = i + (l.length + 1) by omega]
theorem allP_take {w : Int} {l : List Stp} {i : Nat} {s : Stp} (h : l[i]? = some s) : allP w 0 (l.take (i + 1)) = allP w 0 (l.take i) ++ oneP w i s := by
  have hi : i < l.length := (List.getElem?_eq_some_iff.mp h).1
  rw [List.take_add_one, h]
  show allP w 0 (l.take i ++ [s]) = _
  rw [allP_snoc, List.length_take, Nat.zero_add, Nat.min_eq_left (Nat.le_of_lt hi)]
def PieceA (H : Hp) (x : V) (p : Int × (Int × List Int)) : Prop := PieceE H p.1 x p.2
theorem pieceA_kp {q : Addr} {H H' : Hp} {xs : List V} {ps : List (Int × (Int × List Int))} (k : Kp q H H') (h : Paired (PieceA H) xs ps) : Paired (PieceA H') xs ps := L2.Paired.mapP h fun _ _ z => PieceE.kp k z
theorem pieceA_st {H H' : Hp} {xs : List V} {ps : List (Int × (Int × List Int))} (k : Same H H') (h : Paired (PieceA H) xs ps) : Paired (PieceA H') xs ps := pieceA_kp (q := 0) (Kp.same k) h
theorem pieceA_of {H : Hp} {ix : Int} : ∀ {xs : List V} {ps : List (Int × List Int)}, Paired (PieceE H ix) xs ps → Paired (PieceA H) xs (ps.map fun p => (ix, p))
  | _, _, .nil => .nil
  | _, _, .cons h t => .cons h (pieceA_of t)
theorem spl_len {w : Int} : ∀ (r acc : List Int) (st pos : Int), (spl w st acc pos r).length ≤ r.length + 1
  | [], _, _, _ => Nat.le_refl _
  | x :: r, acc, st, pos => by
    by_cases c : acc ≠ [] ∧ pos % w = 0
    · rw [spl_cut c, List.length_cons, List.length_cons]
      have := spl_len (w := w) r [x] pos (pos + 1)
      omega
    · rw [spl_go c, List.length_cons]
      have := spl_len (w := w) r (acc ++ [x]) st (pos + 1)
      omega
def sp_partsX : Sp := fun vs H Q _ => ∃ (a ca sa : Addr) (sp : Int) (xs : List V) (sts : List Stp), vs = [.ref a] ∧ H a = some (.tup [.ref ca, .int sp, .ref sa]) ∧ H sa = some (.lst xs) ∧ Paired (StepV H) xs sts ∧ 0 < sp ∧ xs.length ≤ 100 ∧
  (∀ f ws, some (f, ws) ∈ sts → ws.length ≤ 100) ∧ ∀ l H' ys, Same H H' → H l = none → H' l = some (.lst ys) → Paired (PieceA H') ys (allP sp 0 sts) → Q (.ref l) H'
def sp_piecesX : Sp := fun vs H Q _ => ∃ (wd : Int) (a : Addr) (xs : List V) (sts : List Stp), vs = [.int wd, .ref a] ∧ H a = some (.lst xs) ∧ Paired (StepV H) xs sts ∧ 0 < wd ∧ xs.length ≤ 100 ∧ (∀ x ∈ sts, OkS 24 x) ∧
  ∀ l H' ys, Same H H' → H l = none → H' l = some (.lst ys) → Paired (PieceA H') ys (allP wd 0 sts) → Q (.ref l) H'
section
variable {P : Program} {w : World} {K : PySem.W.Frag} {mg : Str → Option Value} {base : Heap}
theorem ok_piecesX {f : Addr} {fd : FuncData} (F : Fun K "_pieces_of" "_pieces_of" s_pieces_of f fd) (T : Txt mg) (c_broken : Cal P w K mg base 1 "_broken" ["width", "index", "write"] sp_brokenX) : FnOk P w K mg base CX0 2 f fd ["width", "steps"] sp_piecesX := by
  refine F.ok sc_pieces_of (fun vs H Q E h => ?_) (fun cdv A outer s H vs Q E hr h => ?_)
  · obtain ⟨_, _, _, _, rfl, _⟩ := h
    rfl
  obtain ⟨wd, a, xs, sts, rfl, ha, hst, w0, xl, ok, k⟩ := h
  refine ⟨_, (pss_cons (ps_set (i := 2) sc_pieces_of.nd rfl (Or.inl rfl) (pe_lst' pa_nil))
    (pss_cons (ps_for PassesOwn.never rfl (pi_enum rfl T.enumerate (pa_cons (pv 1) pa_nil)) (pg_tup rfl (pgs_cons (pg_name (i := 3) sc_pieces_of.nd rfl (Or.inl rfl)) (pgs_cons (pg_name (i := 4) sc_pieces_of.nd rfl (Or.inl rfl)) pgs_nil)))
      (pss_one (ps_if (pt_cmpR op_notN (pv 4) pe_non (nomark _))
      (pss_one (ps_expr (pe_bm PySem.F.plainAttrs_list PySem.F.slot_list_extend PySem.F.type_list_extend mt_extend (pv 2) (pa_cons (pe_cal c_broken hr (pa_cons (pv 0) (pa_cons (pv 3) (pa_cons (pv 4) pa_nil)))) pa_nil))))
      pss_nil)))
    (pss_one (ps_ret (pv 2))))), ?_⟩
  refine ⟨szr, fun pl H1 hpl s1 h1 => ?_⟩
  have hlen := paired_len hst
  refine ⟨_, rfl, a, xs, rfl, SqL.of (s1 _ _ ha), for_enum (K := K) (a := a) (xs := xs) (fun i σ' H' => ∃ ys v1 v2, σ' = [some (.int wd), some (.ref a), some (.ref pl), v1, v2] ∧ Same H H' ∧ H' pl = some (.lst ys) ∧ ys.length ≤ i * 25 ∧ Paired (PieceA H') ys (allP wd 0 (sts.take i))) ?_ ?_ ?_ ?_⟩
  · exact ⟨[], none, none, rfl, s1, h1, Nat.zero_le _, .nil⟩
  · rintro i σ' H' hi ⟨ys, v1, v2, rfl, s2, _⟩
    exact SqL.of (s2 _ _ ha)
  · rintro i x T' σ' H' hx ⟨ys, v1, v2, rfl, s2, h2, l2, p2⟩ hT
    have hi : i < xs.length := (List.getElem?_eq_some_iff.mp hx).1
    obtain ⟨st, hs1, hs2⟩ := paired_get hst hx
    have s3 : Same H' (upd H' T' (.tup [.int (i : Nat), x])) := same_new hT
    have tk := allP_take (w := wd) hs1
    refine ⟨T', _, rfl, SqT.of upd_same, rfl, _, _, rfl, _, _, rfl, rfl, ?_⟩
    cases st with
    | none =>
      have e : x = .non := hs2
      subst e
      exact ⟨_, rfl, rfl, _, rfl, ys, _, _, rfl, s2.trans s3, s3 _ _ h2, by omega, by rw [tk]; show Paired _ ys (_ ++ []); rw [List.append_nil]; exact pieceA_st s3 p2⟩
    | some fw =>
      obtain ⟨f, ws⟩ := fw
      obtain ⟨t, b, e, h3, h4⟩ := hs2
      subst e
      obtain ⟨o1, o2, o3, o4⟩ := ok _ (List.mem_of_getElem? hs1)
      have s4 := s2.trans s3
      refine ⟨_, rfl, rfl, _, rfl, ?_⟩
      refine ⟨_, rfl, .inl ⟨rfl, _, SqL.of (s3 _ _ h2)⟩, ?_⟩
      refine ⟨_, rfl, _, rfl, _, rfl, wd, (i : Int), f, t, b, ws, rfl, s4 _ _ h3, s4 _ _ h4, w0, o1, by omega, o2, by omega, fun l H5 zs s5 hl h5 p5 => ?_⟩
      have h6 := s5 _ _ (s3 _ _ h2)
      have zl : zs.length ≤ 25 := by
        rw [paired_len p5]
        have := spl_len (w := wd) ws [] f f
        omega
      refine ⟨pl, l, ys, zs, rfl, rfl, h6, h5, sz (by omega), ?_⟩
      have kk := kp_upd (zs := ys ++ zs) h6
      refine ⟨ys ++ zs, _, _, rfl, same_mut (s4.trans s5) hpl, upd_same, by rw [List.length_append]; omega, ?_⟩
      rw [tk]
      exact paired_app (pieceA_kp kk (pieceA_st (s3.trans s5) p2)) (pieceA_kp kk (pieceA_of p5))
  · rintro σ' H' ⟨ys, v1, v2, rfl, s2, h2, l2, p2⟩
    rw [hlen, List.take_length] at p2
    exact ⟨_, rfl, k pl H' ys s2 hpl h2 p2⟩
end
end Af

set_option Elab.async false
set_option linter.all false
set_option maxRecDepth 100000
namespace Af
open PySem PySem.Spec PyProof.Rows L2
/-! a def that runs where no repr is under way (repr asks it), and repr itself -/
section
variable {P : Program} {w : World} {K : PySem.W.Frag} {mg : Str → Option Value} {base : Heap}
structure FnG (P : Program) (w : World) (K : PySem.W.Frag) (mg : Str → Option Value) (base : Heap) (k : Nat) (f : Addr) (fd : FuncData) (ps : List Str) (sp : Sp) : Prop where
  many : ∀ (xs : List V) (G : Hp) (R : VK) (E : XK), sp xs G R E → xs.length = ps.length
  goes : ∀ (A : Around) (out : List Env) (s : Shared) (G : Hp) (ar : Args) (us : List Value) (xs : List V) (R : VK) (E : XK), Room k A → A.guards = some [] → Env0 P w K mg base A out s G → BindsTo s fd ar (ps.zip us) → Vals xs us → sp xs G R E →
    codeAny (model P w) A (.call (.ref f) ar) (CR CX0 out P w G s R E) s
theorem okG {x qual : Str} {st : Stmt} {f : Addr} {fd : FuncData} {N ps : List Str} {k : Nat} {sp : Sp} (F : Fun K x qual st f fd) (S : FnScope N ps (defScope st)) (many : ∀ (xs : List V) (G : Hp) (R : VK) (E : XK), sp xs G R E → xs.length = ps.length)
    (body : ∀ (cv : Value) (A : Around) (out : List Env) (s : Shared) (G : Hp) (xs : List V) (R : VK) (E : XK), Room k (A.deeper (envOfC qual (defScope st) s.heap.objs.size f cv)) → A.guards = some [] → sp xs G R E →
      ∃ t, PSs (cxOf CX0 P w K mg base N qual (defScope st) f cv A out s G E).nox (defBody st) t ∧ t { nx := fun _ G' => R .non G', rt := R } (L2.start N xs) G) : FnG P w K mg base (k + 1) f fd ps sp := by
  obtain ⟨oc, od, kV, doc, pm, an, cv, ct, osl, rfl, lk, code⟩ := F.ex
  refine ⟨many, fun A out s G ar us xs R E room grd env bind vals hs => ?_⟩
  have nl := many _ _ _ _ hs
  have KI : K.In s.heap := env.mod.kin.keeps fun b o e => (env.bs b o e).1
  have NL : s.heap.NoLimit := env.mod.nolimit.keeps fun b o e => (env.bs b o e).1
  have kinds : ∀ y ∈ ps.zip us, (defScope st).names.lookup y.1 = some .local ∨ ((defScope st).names.lookup y.1 = some .cell ∧ ((cellsFrom (s.heap.objs.size + 1) (defScope st).names []).lookup y.1).isSome = true) := by
    rintro ⟨n, v⟩ hy
    rcases S.par n (List.of_mem_zip hy).1 with q | q
    · exact .inl q
    · exact .inr ⟨q, PySem.W.cellsFrom_some _ _ _ (.inl q)⟩
  refine codeAny_call_function room.depth (KI _ _ lk) rfl S.co S.gen rfl (PySem.W.codeRec_of KI code) (bind _ _ _ _ (wpAny_newFunctionEnv_cells S.kind kinds fun en he s1 z => ?_))
  subst he
  refine ⟨NL.keeps z.toInCall.keep, codeAny_func ?_⟩
  obtain ⟨t, ht, hq⟩ := body cv A out s G xs R E (room.deeper _) grd hs
  have I := inv_start (CX := CX0) (E := E) (N := N) (cd := cv) (f := f) (qual := qual) S room.hd env nl vals z
  refine wpAny_mono (ht.nox.run [] s1 (L2.start N xs) G _ I hq) (fun fl s' hz => ?_) fun e s' hz => hz
  have last : ∀ {σ : L2.St} {G' : Hp} {v : V} {u : Value}, Inv (cxOf CX0 P w K mg base N qual (defScope st) f cv A out s G E) [] σ G' s' → RelV v u → R v G' → CE out P w G s R u s' := fun {σ G' v u} J rv q => ⟨v, G', J.os, J.bare, J.base, J.hok, rv, q⟩
  match fl, hz with
  | .ret u, ⟨v, σ, G', J, rv, q⟩ => exact last J rv q
  | .next, ⟨σ, G', J, q⟩ => exact last (v := V.non) (u := Value.none) J rfl q
  | .brk, ⟨_, _, _, q⟩ => exact q.elim
  | .cont, ⟨_, _, _, q⟩ => exact q.elim
/-- the law, called behind the top -/
theorem callG {P : Program} {w : World} {K : PySem.W.Frag} {mg mb : Str → Option Value} {k : Nat} {fa a : Addr} {fd : FuncData} {x : Str} {sp : Sp} {s : Shared} {us : List Value} {ns : List Int} (KI : K.In s.heap) (hns : s.heap.Ns mainGlobals mg) (hb : s.heap.Ns builtinsNs mb)
    (hbb : ∀ n : Str, n ≠ "__name__" → mb n = bootBuiltins n) (NL : s.heap.NoLimit) (gn : s.gens = #[]) (ha : s.heap.get? a = some { cls := .type "list", data := .seq us.toArray }) (hi : IntsAre us ns) (short : ns.length ≤ sizeLine) (room : Room k callerA)
    (F : ∀ base : Heap, K.In base → base.Ns mainGlobals mg → FnG P w K mg base k fa fd [x] sp) (bind : ∀ (s : Shared) (u : Value), BindsTo s fd ⟨[u], []⟩ [(x, u)])
    (hs : ∀ G : Hp, Only G → SqL K G a (ns.map V.int) → sp [.ref a] G (fun v _ => v = .bl true) fun _ _ _ => False) :
    codeAny (model P w) callerA (.call (.ref fa) ⟨[.ref a], []⟩) (fun r s' => r = .ok (.ret (.bool true)) ∧ OldK s.heap s'.heap ∧ s'.os = s.os ∧ AllBare s'.gens) s := by
  have vals := vals_ints hi
  have many := hi.length
  have main : ∀ G : Hp, Only G → SqL K G a (ns.map V.int) → HOk P w G s.heap → (∀ b, G b ≠ none → b = a) → (G a ≠ none → K.lookup a = none) →
      codeAny (model P w) callerA (.call (.ref fa) ⟨[.ref a], []⟩) (fun r s' => r = .ok (.ret (.bool true)) ∧ OldK s.heap s'.heap ∧ s'.os = s.os ∧ AllBare s'.gens) s := by
    intro G hO hS ok one free
    have keep : ∀ {b : Addr} {o : Obj}, s.heap.get? b = some o → G b = none → (hidT s.heap G).get? b = some o := fun z n => hidT_get z n
    have dicts : ∀ {b : Addr} {o : Obj} {es : Array DictEntry} {ep : Nat}, s.heap.get? b = some o → o.data = .dict es ep → G b = none := by
      intro b o es ep z dz
      cases q : G b with
      | none => rfl
      | some u =>
        have y := one b (by rw [q]; simp)
        subst y
        rw [ha] at z
        cases z
        have dz' : Data.seq us.toArray _ = Data.dict es ep := dz
        cases dz'
    have spaces : ∀ {b : Addr} {m : Str → Option Value}, s.heap.Ns b m → (hidT s.heap G).Ns b m := by
      rintro b m ⟨o, es, ep, z, dz, r⟩
      exact ⟨o, es, ep, keep z (dicts z dz), dz, r⟩
    have KB : K.In (hidT s.heap G) := by
      intro b o z
      refine keep (KI b o z) ?_
      cases q : G b with
      | none => rfl
      | some u =>
        have y := one b (by rw [q]; simp)
        subst y
        rw [free (by rw [q]; simp)] at z
        cases z
    have env : Env0 P w K mg (hidT s.heap G) callerA [] s G := by
      refine ⟨rfl, ⟨KB, spaces hns, ⟨mb, spaces hb, hbb⟩, ?_⟩, fun b o z => of_hidT z, Nat.le_of_eq (hidT_size _ _), trivial, fun b z => absurd (show b ∈ ([] : List Addr) from z) (by simp), ok, .of_eq gn⟩
      obtain ⟨mc, y1, y2⟩ := NL
      exact ⟨mc, spaces y1, y2⟩
    refine codeAny_mono ((F _ KB (spaces hns)).goes callerA [] s G ⟨[.ref a], []⟩ [.ref a] [.ref a] _ _ room rfl env (bind s (.ref a)) (.cons rfl .nil) (hs G hO hS)) fun r s' z => ?_
    match r, z with
    | .ok (.ret u), z =>
      obtain ⟨v, G', hos, bare, un, ok', rv, q⟩ := z
      have q' : v = .bl true := q
      subst q'
      obtain rfl : u = Value.bool true := rv
      refine ⟨rfl, OldK.of_keep fun b o y => ?_, hos, bare⟩
      cases q : G b with
      | none => exact un.keep b o y q (by intro m; exact absurd (show b ∈ ([] : List Addr) from m) (by simp)) (by simp)
      | some u =>
        rcases hO b with z | ⟨ob, xs, z⟩
        · rw [q] at z
          cases z
        · obtain ⟨y1, _⟩ := ok b _ z
          obtain ⟨y2, _⟩ := ok' b _ (un.frzs b ob _ z)
          rw [y] at y1
          cases y1
          exact y2
    | .error e, z => exact (show False from z).elim
    | .ok .next, z => exact (show False from z).elim
    | .ok .brk, z => exact (show False from z).elim
    | .ok .cont, z => exact (show False from z).elim
  cases hk : K.lookup a with
  | some o =>
    have z := KI a o hk
    rw [ha] at z
    cases z
    exact main (fun _ => none) (fun _ => .inl rfl) (.inr ⟨_, us.toArray, _, hk, rfl, rfl, rfl, by rw [List.size_toArray, many]; exact short, by simpa using vals⟩) (fun b u y => by cases (show (none : Option HO) = some u from y)) (fun b y => absurd rfl y) fun y => absurd rfl y
  | none =>
    have at_ : ∀ {b : Addr} {u : HO}, (if b = a then some (HO.frz { cls := .type "list", data := .seq us.toArray } (.lst (ns.map V.int))) else none) = some u → b = a ∧ u = .frz { cls := .type "list", data := .seq us.toArray } (.lst (ns.map V.int)) := by
      intro b u y
      by_cases q : b = a
      · rw [if_pos q] at y
        exact ⟨q, (Option.some.inj y).symm⟩
      · rw [if_neg q] at y
        cases y
    refine main (fun b => if b = a then some (.frz { cls := .type "list", data := .seq us.toArray } (.lst (ns.map V.int))) else none) (fun b => ?_) (.inl (.inr ⟨{ cls := .type "list", data := .seq us.toArray }, if_pos rfl⟩)) (fun b u y => ?_) (fun b y => ?_) fun _ => hk
    · by_cases q : b = a
      · exact .inr ⟨_, _, if_pos q⟩
      · exact .inl (if_neg q)
    · obtain ⟨rfl, rfl⟩ := at_ y
      exact ⟨ha, by rw [List.length_map]; exact short, us, _, vals, ha⟩
    · by_cases q : b = a
      · exact q
      · exact absurd (if_neg q) y
theorem walkG {l : PySem.W.OpenLaw} {n k : Nat} {q : Program} {loose : List Str} {XP : (Str → Option Value) → Heap → Prop} {YP : World → Heap → Prop} {d : DefRec} {K : Params → PySem.W.Frag} {sp : World → Sp} {x : Str} (hn : l.most = some n) (small : n ≤ sizeLine) (hd : d.params.defaults = []) (room : Room k callerA)
    (hY : ∀ (w : World) (h : Heap), YP w h → (K w.params).In h)
    (F : ∀ (w : World) (mg : Str → Option Value) (fa : Addr) (h : Heap), (K w.params).In h → h.Ns mainGlobals mg → mg d.name = some (.ref fa) →
      ∃ fd : FuncData, (∀ (s : Shared) (u : Value), BindsTo s fd ⟨[u], []⟩ [(x, u)]) ∧ ∀ base : Heap, (K w.params).In base → base.Ns mainGlobals mg → FnG l.prog w (K w.params) mg base k fa fd [x] (sp w))
    (hs : ∀ (w : World) (G : Hp) (a : Addr) (ns : List Int), ns.length ≤ n → Only G → SqL (K w.params) G a (ns.map V.int) → sp w [.ref a] G (fun v _ => v = .bl true) fun _ _ _ => False) :
    PySem.W.WalkO q loose XP YP l.row.toRowW d [] (fun f vs => PySem.call f vs) := by
  refine Att.attach_call hn hd fun w s₀ s₁ mg mb fa o pm cd doc a us ns G Y ho hq hcd hmg hobj hints hlen hg => ?_
  have KI := hY w _ Y
  obtain ⟨fd, hb, hF⟩ := F w mg fa _ KI G.T.g hmg
  exact callG KI G.T.g G.T.b G.T.builtins G.T.nolimit hg hobj hints (Nat.le_trans hlen small) room hF hb fun H hO hS => hs w H a ns hlen hO hS
end
end Af

set_option Elab.async false
set_option linter.all false
set_option maxRecDepth 100000
namespace Af
open PySem PySem.Spec PyProof.Rows L2
/-! data with empty dicts within, and its repr -/
mutual
inductive Dq (K : PySem.W.Frag) (H : Hp) : V → PyData → Prop
  | non : Dq K H .non .none
  | bl (b : Bool) : Dq K H (.bl b) (.bool b)
  | int (i : Int) : Dq K H (.int i) (.int i)
  | str (x : Str) : Dq K H (.str x) (.str x)
  | lst {a : Addr} {xs : List V} {ds : List PyData} : H a = some (.lst xs) → DqAll K H xs ds → Dq K H (.ref a) (.list ds)
  | tup {a : Addr} {xs : List V} {ds : List PyData} : H a = some (.tup xs) → DqAll K H xs ds → Dq K H (.ref a) (.tuple ds)
  | dic {a : Addr} : H a = some (.dK []) → Dq K H (.ref a) (.dict [])
inductive DqAll (K : PySem.W.Frag) (H : Hp) : List V → List PyData → Prop
  | nil : DqAll K H [] []
  | cons {v : V} {vs : List V} {d : PyData} {ds : List PyData} : Dq K H v d → DqAll K H vs ds → DqAll K H (v :: vs) (d :: ds)
end
section
variable {X : Cx} {pins : List (Addr × Obj)} {σ : L2.St} {H : Hp} {s : Shared}
mutual
/-- such data is read, and shown whatever calls are under way -/
theorem Dq.sees (I : Inv X pins σ H s) : ∀ (d : PyData) (v : V) (u : Value), Dq X.K H v d → RelV v u → d.showable = true → d.shown.length ≤ sizeLine →
    ∃ as bs, Reads s.heap u d as ∧ ReadAtMost s.heap d.depth bs ∧ ReprK X.prog X.w bs s.heap d.depth u d.shown
  | .none, _, _, h, r, sh, sz => by
    cases h
    cases r
    obtain ⟨bs, h1, h2⟩ := ReprK.of_reads (prog := X.prog) (w := X.w) (h₀ := s.heap) Reads.none sh (fun z => by cases z) sz
    exact ⟨_, bs, Reads.none, h1, h2⟩
  | .bool b, _, _, h, r, sh, sz => by
    cases h
    cases r
    obtain ⟨bs, h1, h2⟩ := ReprK.of_reads (prog := X.prog) (w := X.w) (h₀ := s.heap) (Reads.bool b) sh (fun z => by cases z) sz
    exact ⟨_, bs, Reads.bool b, h1, h2⟩
  | .int i, _, _, h, r, sh, sz => by
    cases h
    obtain ⟨t, rfl⟩ := r
    obtain ⟨bs, h1, h2⟩ := ReprK.of_reads (prog := X.prog) (w := X.w) (h₀ := s.heap) (Reads.int i t) sh (fun z => by cases z) sz
    exact ⟨_, bs, Reads.int i t, h1, h2⟩
  | .str x, _, _, h, r, sh, sz => by
    cases h
    obtain ⟨t, rfl⟩ := r
    obtain ⟨bs, h1, h2⟩ := ReprK.of_reads (prog := X.prog) (w := X.w) (h₀ := s.heap) (Reads.str x t) sh (fun z => by cases z) sz
    exact ⟨_, bs, Reads.str x t, h1, h2⟩
  | .list ds, _, _, h, r, sh, sz => by
    cases h with
    | @lst a xs _ hs ha =>
      cases r
      obtain ⟨its, rv, ⟨o, n, ho, hc, _, hd⟩, _⟩ := I.list (SqL.of hs)
      have sz' : (listText (PyData.shownAll ds)).length ≤ sizeLine := by simpa only [PyData.shown] using sz
      obtain ⟨as, bs, hr, hb, hk⟩ := Dq.seesAll I ds _ its ha rv (by simpa [PyData.showable] using sh) fun t ht => Nat.le_trans (listText_mem_le ht) sz'
      have rd : Reads s.heap (.ref a) (.list ds) _ := .list ho hc hd hr
      have new : a ∉ bs := not_mem_of_deeper rd (by simp only [PyData.depth]; omega) hb
      refine ⟨_, a :: bs, rd, ReadAtMost.cons rd (by simp only [PyData.depth]; omega) hb, ?_⟩
      simp only [PyData.depth, PyData.shown]
      cases its with
      | nil =>
        cases hr
        simp only [PyData.shownAll, listText_nil]
        exact ReprK.listEmpty ho hc hd
      | cons x l => exact ReprK.list ho hc hd new (by simpa using hk.length_eq) fun i y e => hk.item i y (by simpa using e)
  | .tuple ds, _, _, h, r, sh, sz => by
    cases h with
    | @tup a xs _ hs ha =>
      cases r
      obtain ⟨its, rv, ⟨o, ho, hc, n, hd⟩, _⟩ := I.tuple (SqT.of hs)
      have sz' : (tupleText (PyData.shownAll ds)).length ≤ sizeLine := by simpa only [PyData.shown] using sz
      obtain ⟨as, bs, hr, hb, hk⟩ := Dq.seesAll I ds _ its ha rv (by simpa [PyData.showable] using sh) fun t ht => Nat.le_trans (tupleText_mem_le ht) sz'
      have rd : Reads s.heap (.ref a) (.tuple ds) _ := .tuple ho hc hd hr
      have new : a ∉ bs := not_mem_of_deeper rd (by simp only [PyData.depth]; omega) hb
      refine ⟨_, a :: bs, rd, ReadAtMost.cons rd (by simp only [PyData.depth]; omega) hb, ?_⟩
      simp only [PyData.depth, PyData.shown]
      exact ReprK.tuple ho hc hd new hk
  | .dict kvs, _, _, h, r, sh, sz => by
    cases h with
    | @dic a ha =>
      cases r
      obtain ⟨_, hne, vs, rv, o, es, ep, h1, h2, h3, _, h4, _⟩ := dk_of I.hok ha
      cases rv
      have e : es.toList = [] := by
        cases q : es.toList with
        | nil => rfl
        | cons y l =>
          rw [q] at h4
          cases h4
      have rd : Reads s.heap (.ref a) (.dict []) ([a] ++ []) := Reads.dict (kvs := []) (as := []) (bs := []) h1 h2.1 h3 (by rw [e]; exact .nil) (by rw [e]; exact .nil)
      obtain ⟨bs, h5, h6⟩ := ReprK.of_reads (prog := X.prog) (w := X.w) (h₀ := s.heap) rd sh (fun _ z => by
        have z' : sysModules ∈ [a] := z
        rw [← List.mem_singleton.mp z'] at hne
        exact absurd hne (by simp)) sz
      exact ⟨_, bs, rd, h5, h6⟩
theorem Dq.seesAll (I : Inv X pins σ H s) : ∀ (ds : List PyData) (vs : List V) (us : List Value), DqAll X.K H vs ds → Vals vs us → PyData.showableAll ds = true → (∀ t ∈ PyData.shownAll ds, t.length ≤ sizeLine) →
    ∃ as bs, ReadsAll s.heap us ds as ∧ ReadAtMost s.heap (PyData.depthAll ds) bs ∧ ReprAllK X.prog X.w bs s.heap (PyData.depthAll ds) us (PyData.shownAll ds)
  | [], _, _, h, r, _, _ => by
    cases h
    cases r
    refine ⟨_, [], ReadsAll.nil, ⟨fun b z => (by simp at z), ?_⟩⟩
    simp only [PyData.shownAll]
    exact .nil
  | d :: ds, _, _, h, r, sh, sz => by
    cases h with
    | cons h1 h2 =>
      cases r with
      | cons r1 r2 =>
        have sh' : d.showable = true ∧ PyData.showableAll ds = true := by simpa [PyData.showableAll] using sh
        obtain ⟨a1, b1, q1, m1, k1⟩ := Dq.sees I d _ _ h1 r1 sh'.1 (sz _ (by simp only [PyData.shownAll]; exact List.mem_cons_self))
        obtain ⟨a2, b2, q2, m2, k2⟩ := Dq.seesAll I ds _ _ h2 r2 sh'.2 fun t ht => sz t (by simp only [PyData.shownAll]; exact List.mem_cons_of_mem _ ht)
        refine ⟨_, b1 ++ b2, ReadsAll.cons q1 q2, fun b hb => ?_, ?_⟩
        · simp only [PyData.depthAll]
          rcases List.mem_append.mp hb with hb | hb
          · obtain ⟨d', a', r', y⟩ := m1 b hb
            exact ⟨d', a', r', by omega⟩
          · obtain ⟨d', a', r', y⟩ := m2 b hb
            exact ⟨d', a', r', by omega⟩
        · simp only [PyData.depthAll, PyData.shownAll]
          refine .cons ((k1.more fun b hb => List.mem_append.mpr (.inl hb)).level_le (by omega)) (k2.more_le (fun b hb => List.mem_append.mpr (.inr hb)) (by omega))
end
def rRepr (K : PySem.W.Frag) : List V → Hp → VK → Prop := fun xs H Q => ∃ (a : Addr) (vs : List V) (ds : List PyData), xs = [.ref a] ∧ H a = some (.tup vs) ∧ DqAll K H vs ds ∧ PyData.showableAll ds = true ∧ PyData.depthAll ds ≤ 60 ∧ (PyData.tuple ds).shown.length ≤ sizeLine ∧ Q (.str (PyData.tuple ds).shown) H
/-- repr of a tuple of data -/
theorem call_repr' (hg : X.A.guards = some []) (hu : X.A.units + 64 < cLine) : CallR X (.builtin "repr") (rRepr X.K) := by
  intro pins s σ H xs us Q I r h
  obtain ⟨a, vs, ds, rfl, hs, hd, sh, dp, sz, q⟩ := h
  obtain ⟨u, rfl, ru⟩ := vals1 r
  cases (show u = Value.ref a from ru)
  obtain ⟨its, rv, ⟨o, ho, hc, n, hdd⟩, _⟩ := I.tuple (SqT.of hs)
  have sz' : (tupleText (PyData.shownAll ds)).length ≤ sizeLine := by simpa only [PyData.shown] using sz
  obtain ⟨as, bs, hr, hb, hk⟩ := Dq.seesAll I ds vs its hd rv sh fun t ht => Nat.le_trans (tupleText_mem_le ht) sz'
  have rd : Reads s.heap (.ref a) (.tuple ds) _ := .tuple ho hc hdd hr
  have new : a ∉ bs := not_mem_of_deeper rd (by simp only [PyData.depth]; omega) hb
  refine call_repr_slot (T := "tuple") (by omega) ⟨o, ho, hc⟩ PySem.F.slot_tuple_repr (call_tuple_reprK ho hc hdd new hk hg (fun b _ => Clear.nil b) (by show X.A.units + 1 + (PyData.depthAll ds + 1) < cLine; omega) (fun _ _ e => e) (fun h' u tk keep => ?_) sz')
  refine ⟨_, _, rfl, .str (PyData.tuple ds).shown, H, I.kept keep, ⟨u, ?_⟩, q⟩
  simp only [PyData.shown]
end
end Af

set_option Elab.async false
set_option linter.all false
set_option maxRecDepth 100000
namespace Af
open PySem PySem.Spec PyProof.Rows L2
/-! what the program's questions answer, told of data -/
def idxD (m : Int) : PyData → Bool
  | .int i => decide (0 ≤ i) && decide (i < m)
  | _ => false
def widthD : PyData → Bool
  | .int i => decide (1 ≤ i) && decide (i ≤ 24)
  | _ => false
def worthsD : PyData → Bool
  | .tuple ds => !ds.isEmpty && ds.all (idxD 8)
  | _ => false
def lenD : PyData → Nat
  | .tuple ds => ds.length
  | .list ds => ds.length
  | _ => 0
def contentD (d : PyData) : Bool := worthsD d && decide (lenD d ≤ 24)
def addD (m : Int) (n : Nat) : PyData → Bool
  | .int i => decide (i + (n : Int) ≤ m)
  | _ => false
def stepQ (m : Int) : PyData → Bool
  | .none => true
  | .tuple [f, ws] => idxD m f && worthsD ws && addD m (lenD ws) f
  | _ => false
def stepsQ (m : Int) : PyData → Bool
  | .list ds => ds.all (stepQ m)
  | _ => false
section
variable {K : PySem.W.Frag} {H : Hp}
theorem DqAll.len : ∀ {xs : List V} {ds : List PyData}, DqAll K H xs ds → xs.length = ds.length
  | _, _, .nil => rfl
  | _, _, .cons _ t => by
    rw [List.length_cons, List.length_cons, t.len]
theorem dq_idx {x : V} {d : PyData} (h : Dq K H x d) (m : Int) : idxB m x = idxD m d := by
  cases h <;> rfl
theorem dq_width {x : V} {d : PyData} (h : Dq K H x d) : widthB x = widthD d := by
  cases h <;> rfl
theorem dq_add {x : V} {d : PyData} (h : Dq K H x d) (m : Int) (n : Nat) : addB m n x = addD m n d := by
  cases h <;> rfl
theorem dq_all {m : Int} : ∀ {xs : List V} {ds : List PyData}, DqAll K H xs ds → xs.all (idxB m) = ds.all (idxD m)
  | _, _, .nil => rfl
  | _, _, .cons h t => by
    rw [List.all_cons, List.all_cons, dq_all t, dq_idx h]
theorem dq_empty {xs : List V} {ds : List PyData} (h : DqAll K H xs ds) : xs.isEmpty = ds.isEmpty := by
  cases h <;> rfl
theorem dq_len {x : V} {d : PyData} (h : Dq K H x d) : lenB H x = lenD d := by
  cases h with
  | lst e t => simp only [lenB, e, lenD]; exact t.len
  | tup e t => simp only [lenB, e, lenD]; exact t.len
  | dic e => simp only [lenB, e, lenD]
  | _ => rfl
theorem dq_worths {x : V} {d : PyData} (h : Dq K H x d) : worthsB H x = worthsD d := by
  cases h with
  | lst e t => simp only [worthsB, e, worthsD]
  | tup e t => simp only [worthsB, e, worthsD]; rw [dq_empty t, dq_all t]
  | dic e => simp only [worthsB, e, worthsD]
  | _ => rfl
theorem dq_content {x : V} {d : PyData} (h : Dq K H x d) : contentB H x = contentD d := by
  unfold contentB contentD
  rw [dq_worths h, dq_len h]
theorem dq_step {x : V} {d : PyData} (h : Dq K H x d) (m : Int) : stepB H m x = stepQ m d := by
  cases h with
  | non => rfl
  | lst e t => simp only [stepB, e, stepQ]
  | dic e => simp only [stepB, e, stepQ]
  | tup e t =>
    cases t with
    | nil => simp only [stepB, e, stepQ]
    | cons h1 t =>
      cases t with
      | nil => simp only [stepB, e, stepQ]
      | cons h2 t =>
        cases t with
        | nil =>
          simp only [stepB, e, stepQ]
          rw [dq_idx h1, dq_worths h2, dq_len h2, dq_add h1]
        | cons h3 t => simp only [stepB, e, stepQ]
  | _ => rfl
theorem dq_stepAll {m : Int} : ∀ {xs : List V} {ds : List PyData}, DqAll K H xs ds → xs.all (stepB H m) = ds.all (stepQ m)
  | _, _, .nil => rfl
  | _, _, .cons h t => by
    rw [List.all_cons, List.all_cons, dq_stepAll t, dq_step h]
theorem dq_steps {x : V} {d : PyData} (h : Dq K H x d) (m : Int) : stepsB H m x = stepsQ m d := by
  cases h with
  | lst e t => simp only [stepsB, e, stepsQ]; exact dq_stepAll t
  | tup e t => simp only [stepsB, e, stepsQ]
  | dic e => simp only [stepsB, e, stepsQ]
  | _ => rfl
theorem dq_ty {x : V} {d : PyData} (h : Dq K H x d) : ∃ n, Ty K H x n := by
  cases h with
  | non => exact ⟨_, .non, by decide, fun _ _ _ e => by cases e⟩
  | bl b => exact ⟨_, .bl b, by decide, fun _ _ _ e => by cases e⟩
  | int i => exact ⟨_, .int i, by decide, fun _ _ _ e => by cases e⟩
  | str z => exact ⟨_, .str z, by decide, fun _ _ _ e => by cases e⟩
  | lst e t => exact ⟨_, .lst e, by decide, fun b o u z q => by cases z; rw [e] at q; cases q⟩
  | tup e t => exact ⟨_, .tup e, by decide, fun b o u z q => by cases z; rw [e] at q; cases q⟩
  | dic e => exact ⟨_, .dK e, by decide, fun b o u z q => by cases z; rw [e] at q; cases q⟩
theorem DqAll.mem : ∀ {xs : List V} {ds : List PyData} {y : V}, DqAll K H xs ds → y ∈ xs → ∃ d, d ∈ ds ∧ Dq K H y d
  | _, _, _, .nil, h => by simp at h
  | _, _, y, .cons r t, h => by
    rcases List.mem_cons.mp h with rfl | h
    · exact ⟨_, List.mem_cons_self, r⟩
    · obtain ⟨d, h1, h2⟩ := t.mem h
      exact ⟨d, List.mem_cons_of_mem _ h1, h2⟩
mutual
theorem Dq.same {H' : Hp} (s : Same H H') : ∀ (d : PyData) (x : V), Dq K H x d → Dq K H' x d
  | .none, _, h => by cases h; exact .non
  | .bool _, _, h => by cases h; exact .bl _
  | .int _, _, h => by cases h; exact .int _
  | .str _, _, h => by cases h; exact .str _
  | .list ds, _, h => by
    cases h with
    | lst e t => exact .lst (s _ _ e) (DqAll.same s ds _ t)
  | .tuple ds, _, h => by
    cases h with
    | tup e t => exact .tup (s _ _ e) (DqAll.same s ds _ t)
  | .dict _, _, h => by
    cases h with
    | dic e => exact .dic (s _ _ e)
theorem DqAll.same {H' : Hp} (s : Same H H') : ∀ (ds : List PyData) (xs : List V), DqAll K H xs ds → DqAll K H' xs ds
  | [], _, h => by cases h; exact .nil
  | d :: ds, _, h => by
    cases h with
    | cons h1 h2 => exact .cons (Dq.same s d _ h1) (DqAll.same s ds _ h2)
end
/-! small data: to a depth, lists and tuples of at most 45 parts, short texts -/
def flatD : PyData → Bool
  | .none | .bool _ => true
  | .int i => decide (i.natAbs.log2 < 1920) && decide ((toString i : Str).length ≤ 45)
  | .str x => decide ((reprText x).length ≤ 45)
  | .dict kvs => kvs.isEmpty
  | _ => false
def Sm : Nat → PyData → Prop
  | 0, d => flatD d = true
  | n + 1, d => flatD d = true ∨ ∃ ds, (d = .list ds ∨ d = .tuple ds) ∧ ds.length ≤ 45 ∧ ∀ y ∈ ds, Sm n y
theorem Sm.mono {d : PyData} : ∀ {n : Nat}, Sm n d → Sm (n + 1) d
  | 0, h => .inl h
  | n + 1, h => by
    rcases h with h | ⟨ds, h1, h2, h3⟩
    · exact .inl h
    · exact .inr ⟨ds, h1, h2, fun y hy => (h3 y hy).mono⟩
theorem dq_th : ∀ {n : Nat} {x : V} {d : PyData}, Dq K H x d → Sm n d → Th K H n x
  | 0, _, _, h, _ => dq_ty h
  | n + 1, x, d, h, sm => by
    refine ⟨dq_ty h, fun a xs e z => ?_⟩
    subst e
    have key : ∀ ds, DqAll K H xs ds → (d = .list ds ∨ d = .tuple ds) → xs.length ≤ 100000 ∧ ∀ y ∈ xs, Th K H n y := fun ds t q => by
      rcases sm with f | ⟨es, h1, h2, h3⟩
      · rcases q with rfl | rfl <;> cases f
      · have e : es = ds := by
          rcases q with rfl | rfl <;> rcases h1 with h1 | h1 <;> cases h1 <;> rfl
        subst e
        refine ⟨by rw [t.len]; omega, fun y hy => ?_⟩
        obtain ⟨d', m1, m2⟩ := t.mem hy
        exact dq_th m2 (h3 d' m1)
    cases h with
    | lst e t =>
      rcases z with z | z
      · rw [e] at z; cases z
      · rw [e] at z; cases z; exact key _ t (.inl rfl)
    | tup e t =>
      rcases z with z | z
      · rw [e] at z; cases z; exact key _ t (.inr rfl)
      · rw [e] at z; cases z
    | dic e => rcases z with z | z <;> (rw [e] at z; cases z)
end
def bnd : Nat → Nat
  | 0 => 45
  | n + 1 => 45 * bnd n + 93
theorem bnd_le (n : Nat) : bnd n ≤ bnd (n + 1) := by
  show bnd n ≤ 45 * bnd n + 93
  omega
theorem flat_len {d : PyData} (h : flatD d = true) : d.shown.length ≤ 45 ∧ d.showable = true ∧ d.depth ≤ 1 := by
  cases d with
  | none => exact ⟨by decide, rfl, by decide⟩
  | bool b => cases b <;> exact ⟨by decide, rfl, by decide⟩
  | int i =>
    have h' : (decide (i.natAbs.log2 < 1920) && decide ((toString i : Str).length ≤ 45)) = true := h
    rw [Bool.and_eq_true] at h'
    refine ⟨?_, ?_, Nat.zero_le _⟩
    · simp only [PyData.shown]
      exact of_decide_eq_true h'.2
    · simp only [PyData.showable]
      exact h'.1
  | str x =>
    refine ⟨?_, by simp only [PyData.showable], Nat.zero_le _⟩
    simp only [PyData.shown]
    exact of_decide_eq_true h
  | dict kvs =>
    cases kvs with
    | nil => exact ⟨by decide +kernel, by simp only [PyData.showable, PyData.showableKv], by decide⟩
    | cons a b => cases h
  | list ds => cases h
  | tuple ds => cases h
theorem sum_le {b : Nat} : ∀ {ts : List Str}, (∀ t ∈ ts, t.length ≤ b) → (ts.map (·.length)).sum ≤ b * ts.length
  | [], _ => Nat.zero_le _
  | t :: ts, h => by
    have h1 := h t List.mem_cons_self
    have h2 := sum_le (b := b) (ts := ts) fun y hy => h y (List.mem_cons_of_mem _ hy)
    rw [List.map_cons, List.sum_cons, List.length_cons, Nat.mul_succ]
    omega
theorem shownAll_mem : ∀ {ds : List PyData} {t : Str}, t ∈ PyData.shownAll ds → ∃ d ∈ ds, d.shown = t
  | [], t, h => by
    simp only [PyData.shownAll] at h
    cases h
  | d :: ds, t, h => by
    simp only [PyData.shownAll] at h
    rcases List.mem_cons.mp h with h | h
    · exact ⟨d, List.mem_cons_self, h.symm⟩
    · obtain ⟨e, h1, h2⟩ := shownAll_mem h
      exact ⟨e, List.mem_cons_of_mem _ h1, h2⟩
theorem shownAll_len : ∀ ds : List PyData, (PyData.shownAll ds).length = ds.length
  | [] => by simp only [PyData.shownAll, List.length_nil]
  | d :: ds => by simp only [PyData.shownAll, List.length_cons, shownAll_len ds]
theorem showAll_of : ∀ {ds : List PyData}, (∀ d ∈ ds, d.showable = true) → PyData.showableAll ds = true
  | [], _ => by simp only [PyData.showableAll]
  | d :: ds, h => by
    simp only [PyData.showableAll, h d List.mem_cons_self, showAll_of fun y hy => h y (List.mem_cons_of_mem _ hy), Bool.and_self]
theorem depthAll_of {n : Nat} : ∀ {ds : List PyData}, (∀ d ∈ ds, d.depth ≤ n) → PyData.depthAll ds ≤ n
  | [], _ => Nat.zero_le _
  | d :: ds, h => by
    have h1 := h d List.mem_cons_self
    have h2 := depthAll_of (n := n) (ds := ds) fun y hy => h y (List.mem_cons_of_mem _ hy)
    show max d.depth (PyData.depthAll ds) ≤ n
    omega
theorem texts_le {b : Nat} {ds : List PyData} (h : ∀ d ∈ ds, d.shown.length ≤ b) : (listText (PyData.shownAll ds)).length ≤ b * ds.length + 2 * ds.length + 3 ∧ (tupleText (PyData.shownAll ds)).length ≤ b * ds.length + 2 * ds.length + 3 := by
  have q : ((PyData.shownAll ds).map (·.length)).sum ≤ b * (PyData.shownAll ds).length := sum_le fun t ht => by
    obtain ⟨d, h1, h2⟩ := shownAll_mem ht
    rw [← h2]
    exact h d h1
  have l := shownAll_len ds
  rw [l] at q
  have h1 := listText_len_le (PyData.shownAll ds)
  have h2 := tupleText_len_le (PyData.shownAll ds)
  rw [l] at h1 h2
  exact ⟨by omega, by omega⟩
theorem Sm.text : ∀ {n : Nat} {d : PyData}, Sm n d → d.shown.length ≤ bnd n ∧ d.showable = true ∧ d.depth ≤ n + 1
  | 0, d, h => flat_len h
  | n + 1, d, h => by
    rcases h with h | ⟨ds, h1, h2, h3⟩
    · obtain ⟨q1, q2, q3⟩ := flat_len h
      refine ⟨?_, q2, by omega⟩
      show _ ≤ 45 * bnd n + 93
      omega
    · have k : ∀ y ∈ ds, y.shown.length ≤ bnd n ∧ y.showable = true ∧ y.depth ≤ n + 1 := fun y hy => (h3 y hy).text
      obtain ⟨t1, t2⟩ := texts_le fun y hy => (k y hy).1
      have e : bnd n * ds.length ≤ bnd n * 45 := Nat.mul_le_mul_left _ h2
      have s := showAll_of fun y hy => (k y hy).2.1
      have p := depthAll_of fun y hy => (k y hy).2.2
      have u : bnd (n + 1) = 45 * bnd n + 93 := rfl
      rcases h1 with rfl | rfl
      · refine ⟨?_, by simpa only [PyData.showable] using s, by simp only [PyData.depth]; omega⟩
        simp only [PyData.shown]
        omega
      · refine ⟨?_, by simpa only [PyData.showable] using s, by simp only [PyData.depth]; omega⟩
        simp only [PyData.shown]
        omega
/-- three parts of small data can be shown -/
theorem three_text {a b c : PyData} (h1 : Sm 3 a) (h2 : Sm 3 b) (h3 : Sm 3 c) : PyData.showableAll [a, b, c] = true ∧ PyData.depthAll [a, b, c] ≤ 60 ∧ (PyData.tuple [a, b, c]).shown.length ≤ sizeLine := by
  have k : ∀ y ∈ [a, b, c], y.shown.length ≤ bnd 3 ∧ y.showable = true ∧ y.depth ≤ 4 := fun y hy => by
    simp only [List.mem_cons, List.not_mem_nil, or_false] at hy
    rcases hy with rfl | rfl | rfl
    · exact h1.text
    · exact h2.text
    · exact h3.text
  refine ⟨showAll_of fun y hy => (k y hy).2.1, Nat.le_trans (depthAll_of fun y hy => (k y hy).2.2) (by decide), ?_⟩
  simp only [PyData.shown]
  obtain ⟨_, t⟩ := texts_le fun y hy => (k y hy).1
  exact Nat.le_trans t (by show bnd 3 * 3 + 2 * 3 + 3 ≤ sizeLine; decide)
end Af

set_option Elab.async false
set_option linter.all false
set_option maxRecDepth 100000
namespace Af
open PySem PySem.Spec PyProof.Rows L2
/-! an object made where an exception is caught -/
section
variable {X : Cx} {CX : CXT} {k : Nat} {f C : Addr} {fd : FuncData} {ps : List Str} {sp : Sp} {E : L2.St → XK} {x : Str} {p pos : Pos} {e : Expr} {es : List Expr} {t : TA}
def tMakeS (C : Addr) (sp : Sp) (E : L2.St → XK) (t : TA) : TE := fun σ H Q => t σ H fun vs G => ∀ a d, G a = none → G d = none → d ≠ a → sp (.ref a :: vs) (upd (upd G d (.own a)) a (.ins C d [])) (fun v G' => v = .non ∧ Q (.ref a) G') (E σ)
theorem run_makeS {pins : List (Addr × Obj)} {σ : L2.St} {H : Hp} {s : Shared} {Q : VK} {us : List Value} {vs : List V} (M : Mk X.K C f) (F : FnOk X.prog X.w X.K X.mg X.base CX k f fd ps sp) (room : Room (k + 1) X.A) (b : Binds X.K fd ps []) (out : PassesAt CX X σ (E σ)) (I : Inv X pins σ H s) (r : Vals vs us)
    (h : ∀ a d, H a = none → H d = none → d ≠ a → sp (.ref a :: vs) (upd (upd H d (.own a)) a (.ins C d [])) (fun v G => v = .non ∧ Q (.ref a) G) (E σ)) : wpAny (model X.prog X.w) X.A (call (.ref C) us) (EP X pins σ Q) X.xe s := by
  have q := h (s.heap.objs.size + 1) s.heap.objs.size (I.hok.fresh (Nat.le_succ _)) (I.hok.fresh (Nat.le_refl _)) (Nat.ne_of_lt (Nat.lt_succ_self _))
  have J := Inv.made (C := C) I
  have rr : Vals (V.ref (s.heap.objs.size + 1) :: vs) (Value.ref (s.heap.objs.size + 1) :: us) := .cons rfl r
  have nl : (Value.ref (s.heap.objs.size + 1) :: us).length = ps.length := by
    rw [← rr.length]
    exact F.len _ _ _ _ q
  have bb := b _ (Value.ref (s.heap.objs.size + 1) :: us) J.kIn (by rw [List.append_nil]; exact nl)
  rw [List.append_nil] at bb
  refine wpAny_call (make_map (f := f) I.kIn M.makes M.init (beq_iff_eq.mp M.fn) (codeAny_mono (F.run _ X.stack _ _ ⟨Value.ref (s.heap.objs.size + 1) :: us, []⟩ (Value.ref (s.heap.objs.size + 1) :: us) _ _ (E σ) (room.make C us []) (J.env0.make C us []) bb rr q) fun r s' z => ?_))
  match r, z with
  | .error e, z => exact out pins _ _ e s' J z
  | .ok (.ret u), z =>
    obtain ⟨v, G, I3, rv, ev, q3⟩ := J.after z
    subst ev
    exact ⟨rv, ⟨V.ref (s.heap.objs.size + 1), G, I3, rfl, q3⟩⟩
  | .ok .next, z => exact (show False from z).elim
  | .ok .brk, z => exact (show False from z).elim
  | .ok .cont, z => exact (show False from z).elim
theorem pe_makeS (M : Mk X.K C f) (F : FnOk X.prog X.w X.K X.mg X.base CX k f fd ps sp) (room : Room (k + 1) X.A) (hg : Gl X x) (hm : X.mg x = some (.ref C)) (b : Binds X.K fd ps []) (out : ∀ σ, PassesAt CX X σ (E σ)) (ha : PA X (e :: es) t)
    (dbg : (x == ("__debug__" : Str)) = false := by decide) (he : starEach (e :: es) X.env = (false, eval e X.env) :: starEach es X.env := by rfl) (pl : (backTo pos (starEach es X.env)).any (·.1) = false := by rfl) :
    PE X (.Call (.Name x p) (e :: es) [] pos) (tMakeS C sp E t) := by
  refine ⟨fun pins s σ H Q I h => wpAny_Call_Name_kw (ld_glob I hg hm (PySem.W.callWith_K (h₀ := X.base) I.ok.mod.kin M.kp (thn (ha.run pos pins s σ H _ I h) fun us s1 z => ?_) he pl) dbg)⟩
  obtain ⟨vs, G, I1, r, q⟩ := z
  exact ⟨I1.kIn, run_makeS M F room b (out σ) I1 r q⟩
end
end Af

set_option Elab.async false
set_option linter.all false
set_option maxRecDepth 100000
set_option maxHeartbeats 2000000
namespace Af
open PySem PySem.Spec PyProof.Rows L2
/-! an error that a suite puts into a name is held behind the try -/
def HeldE (cls : Value) (d : Option Addr) (a : Addr) : HO := .ext fun h => ∃ (oe : Obj) (vs : Array Value), h.get? a = some oe ∧ Zc cls d oe ∧ oe.data = .fields vs
theorem heldE_ok {P : Program} {w : World} {H : Hp} {h : Heap} {a : Addr} {cls : Value} {d : Option Addr} {oe : Obj} {vs : Array Value} (e : h.get? a = some oe) (z : Zc cls d oe) (q : oe.data = .fields vs) : ObjOk P w H h a (HeldE cls d a) :=
  ⟨⟨oe, vs, e, z, q⟩, ⟨oe, e⟩, fun _ _ ⟨o, v, y, r⟩ k => ⟨o, v, k o y, r⟩⟩
/-- what 'except x as n' wishes: behind the suite the error is held -/
def wHold (K : PySem.W.Frag) (c : Value) (i : Nat) (ts : Addr → Value → Option Addr → TS) (Wout : WX) (D : Ends) : WX := fun cls d σ H => ∃ yes, PySem.W.exmOne K cls c = some yes ∧
  (yes = true → ∀ a, H a = none → ts a cls d { nx := fun τ G => D.nx (τ.set i none) (upd G a (HeldE cls d a)), rt := fun _ _ => False, bk := fun _ _ => False, ct := fun _ _ => False } (σ.set i (some (.ref a))) H) ∧ (yes = false → Wout cls d σ H)
section
variable {X : Cx} {x n : Str} {c : Value} {i : Nat} {body suite : List Stmt} {b₀ : Stmt} {np pos pos' : Pos} {tb : WX → TS} {ts : Addr → Value → Option Addr → TS} {Wout : WX}
theorem hold_end {pins : List (Addr × Obj)} {σ : L2.St} {H : Hp} {s : Shared} {a : Addr} {oe : Obj} {vs : Array Value} {cls : Value} {d : Option Addr} (I : Inv X ((a, oe) :: pins) σ H s) (z : Zc cls d oe) (q : oe.data = .fields vs) (fresh : X.s_0.heap.get? a = none)
    (apart : ∀ p ∈ X.pn ++ pins, p.1 ≠ a) : Inv X pins σ (upd H a (HeldE cls d a)) s := by
  obtain ⟨ea, na, nl, nf, nc⟩ := I.pin (a, oe) (List.mem_append.mpr (.inr List.mem_cons_self))
  have ins : ∀ p ∈ X.pn ++ pins, p ∈ X.pn ++ (a, oe) :: pins := fun p hp => by
    rcases List.mem_append.mp hp with hp | hp
    · exact List.mem_append.mpr (.inl hp)
    · exact List.mem_append.mpr (.inr (List.mem_cons_of_mem _ hp))
  have B := I.base
  refine ⟨I.ok, I.os, I.bare, ⟨B.keep, B.slot, fun b o e n x => ?_, B.there, fun b ys e => ?_, fun b o u e => ?_, fun b ps e => ?_⟩, I.loc, I.cell, ?_, fun y c e => ?_, fun p hp => ?_, ?_, I.len⟩
  · rw [upd_ne (fun y => by rw [y, fresh] at e; cases e)]
    exact B.free b o e n x
  · have y := B.tups b ys e
    rw [upd_ne (ne_of_none y na)]
    exact y
  · have y := B.frzs b o u e
    rw [upd_ne (ne_of_none y na)]
    exact y
  · obtain ⟨more, y⟩ := B.tbls b ps e
    exact ⟨more, by rw [upd_ne (ne_of_none y na)]; exact y⟩
  · rw [upd_ne (Ne.symm nl)]
    exact I.free
  · have f := I.freeC y c e
    by_cases h : c = a
    · obtain ⟨v, o, ho, hd⟩ := I.cell y c e
      rw [h, ea] at ho
      cases ho
      exact absurd hd (nc _)
    · rw [upd_ne h]
      exact f
  · obtain ⟨p1, p2, p3, p4, p5⟩ := I.pin p (ins p hp)
    exact ⟨p1, by rw [upd_ne (apart p hp)]; exact p2, p3, p4, p5⟩
  · exact I.hok.laidN (fun _ _ y => y) na (heldE_ok ea z q)
/-- try: body, except x as n: suite, where the suite runs through -/
theorem ps_try_hold (hs : X.stack = X.env :: X.outer) (hf : X.env.frame = some X.env.locals) (hN : X.N.Nodup) (hi : X.N[i]? = some n) (hln : X.env.kindOf n = some .local) (hex : X.ex = []) (hc : Names X x c) (tk : Takes X Wout)
    (main : ∀ (W : WX) (pn : List (Addr × Obj)) (xe : Value → Shared → Prop), Takes (X.tr pn xe) W → PassesOwn (model X.prog X.w) X.A X.env xe → PSs (X.tr pn xe) body (tb W))
    (after : ∀ (a : Addr) (oe : Obj) (cls : Value) (d : Option Addr) (pn : List (Addr × Obj)), Zc cls d oe → (∃ vs, oe.data = .fields vs) → PSs (X.suite a ((a, oe) :: pn)) (b₀ :: suite) (ts a cls d)) :
    PS X (.Try body [.ExceptHandler (some (.Name x np)) (some n) (b₀ :: suite) pos'] [] [] pos) (fun D σ H => tb (wHold X.K c i ts Wout D) D σ H) := by
  refine ⟨fun pins s σ H D I start => ?_⟩
  have okX := I.ok
  have frm : X.A.frames = some (X.env :: X.outer) := by rw [okX.frames, hs]
  refine wpAny_Try_except (wpAny_mono ((main (wHold X.K c i ts Wout D) (X.pn ++ pins) (fun e u => wpAny (model X.prog X.w) X.A (noteFrame e X.env) (fun _ u2 => wpAny (model X.prog X.w) X.A (setFlight e none) (fun _ u3 =>
    wpAny (model X.prog X.w) X.A (handleBy e X.env [.ExceptHandler (some (.Name x np)) (some n) (b₀ :: suite) pos']) (SP X pins D) X.xe u3) X.xe u2) X.xe u) (fun eu sr air => ?_) PassesOwn.looking).run [] s σ H D (I.toTry _) start) (fun fl s1 done => ?_) (fun _ _ y => y))
  · obtain ⟨a, B, s0, ps0, τ, G, cls, d, rfl, I0, nb, upS, sky, na, osE, bare, yes, hyes, onYes, onNo⟩ := air
    have I1 : Inv X pins τ G s0 := I0.ofTry okX
    show wpAny (model X.prog X.w) X.A (noteFrame (.ref a) X.env) _ _ _
    refine Sky.land Zc.steady frm hf (hs ▸ sky) fun h3 fly up3 => ?_
    have I3 : Inv X pins τ G { sr with heap := h3 } := I1.landed nb fly.1 (upS.trans up3) osE bare
    obtain ⟨o3, v3, at3, z3, d3⟩ := fly.there
    have offs : a ∉ frs (X.env :: X.outer) := fun m => by
      obtain ⟨_, o', e', nfd⟩ := fly.2.2.1.mem m
      rw [at3] at e'
      cases e'
      exact nfd _ d3
    have offL : a ≠ X.env.locals := fun y => offs (List.mem_filterMap.mpr ⟨X.env, List.mem_cons_self, by rw [hf, y]⟩)
    have offF : a ∉ X.fs := fun m => by
      obtain ⟨e, he, y⟩ := List.mem_filterMap.mp m
      exact offs (List.mem_filterMap.mpr ⟨e, List.mem_cons_of_mem _ he, y⟩)
    -- it is younger than all that stood ahead
    have young : s0.heap.get? a = none := by
      cases y : s0.heap.get? a with
      | none => rfl
      | some o =>
        have y2 := nb a o y (by rw [hs]; exact offs)
        rw [fly.2.1] at y2
        cases y2
    have fresh : X.s_0.heap.get? a = none := by
      cases y : X.s_0.heap.get? a with
      | none => rfl
      | some o =>
        obtain ⟨o', y2⟩ := I1.base.there a o y (by rw [hex]; simp)
        rw [young] at y2
        cases y2
    have apart : ∀ p ∈ X.pn ++ pins, p.1 ≠ a := fun p hp y => by
      obtain ⟨p1, _⟩ := I1.pin p hp
      rw [y, young] at p1
      cases p1
    have J3 := I3.suite at3 d3 na offL offF
    refine wpAny_handleBy_cons (codeAny_handlers_test ?_) (by intro y; cases y)
    have kind : PySem.W.Looks (model X.prog X.w) h3 (typeOf (.ref a)) cls := fun _ _ _ _ keep y => wpAny_typeOf_ref (keep _ _ at3) (by rw [z3.1]; exact y)
    have match_ := PySem.W.exm_one (M := model X.prog X.w) I3.kIn kind hyes
    have named : ∀ {R : Value → Shared → Prop} {E : Value → Shared → Prop}, R c { sr with heap := h3 } → wpAny (model X.prog X.w) (X.A.mark (some (.ref a))) (eval (.Name x np) X.env) R E { sr with heap := h3 } := fun {R E} y => by
      obtain ⟨g, dbg, own | ⟨no, bt, nn⟩⟩ := hc
      · exact ld_glob (X := X.suite a ((a, o3) :: (X.pn ++ pins))) J3 g own y dbg
      · exact ld_blt (X := X.suite a ((a, o3) :: (X.pn ++ pins))) J3 g no bt y nn dbg
    refine named (match_.here ?_)
    cases yes with
    | true =>
      refine codeAny_handlers_suite_as (HandSPX.lands_againZ fly fun h4 fly4 up4 => ?_)
      have I4 : Inv X pins τ G { sr with heap := h4 } := I1.landed nb fly4.1 ((upS.trans up3).trans up4) osE bare
      obtain ⟨o4, v4, at4, z4, d4⟩ := fly4.there
      refine store_ok (X := X.suite a ((a, o4) :: (X.pn ++ pins))) (v := .ref a) (I4.suite at4 d4 na offL offF) hN hi (.inl hln) rfl (fun s5 I5 => ?_) (.inr hln)
      refine wpAny_mono ((after a o4 cls d (X.pn ++ pins) z4 ⟨_, d4⟩).run [] s5 _ G _ I5 (onYes rfl a na)) (fun fl s6 y => ?_) (fun _ _ y => False.elim y)
      match fl, y with
      | .next, ⟨τ6, G6, I6, q6⟩ =>
        have I6' : Inv X ((a, o4) :: pins) τ6 G6 s6 := by
          have u := I6.unsuite (q := (a, o4)) okX
          exact ⟨u.ok, u.os, u.bare, u.base, u.loc, u.cell, u.free, u.freeC, fun p hp => by
            rcases List.mem_append.mp hp with hp | hp
            · exact u.pin p (List.mem_append.mpr (.inl hp))
            · rcases List.mem_cons.mp hp with rfl | hp
              · exact I6.pin _ (List.mem_append.mpr (.inl List.mem_cons_self))
              · exact u.pin p (List.mem_append.mpr (.inr hp)), u.hok, u.len⟩
        exact gone_ok I6' hN hi hln fun s7 I7 => ⟨_, _, hold_end I7 z4 d4 fresh apart, q6⟩
      | .ret u, ⟨_, _, _, _, _, q6⟩ => exact q6.elim
      | .brk, ⟨_, _, _, q6⟩ => exact q6.elim
      | .cont, ⟨_, _, _, q6⟩ => exact q6.elim
    | false =>
      show wpAny _ X.A (handleBy (.ref a) X.env []) _ _ _
      refine wpAny_handleBy_nil ?_
      obtain ⟨_, _, _, oe, vs, T, oT, tr, he, hz, hd, hT, _⟩ := id fly
      have up : wpAny (model X.prog X.w) X.A (setFlight (.ref a) X.env.frame) (fun _ u => wpAny (model X.prog X.w) X.A (throw (.ref a) : Sem Flow) (SP X pins D) X.xe u) X.xe { sr with heap := h3 } := by
        rw [hf]
        exact HandSPX.setFlight_upZ fly fun h4 held up4 => wpAny_throw (tk _ _ ⟨a, B, s0, pins, τ, G, cls, d, rfl, I1, nb, (upS.trans up3).trans up4, .inr (.inr (by rw [hs]; exact held)), na, osE, bare, onNo rfl⟩)
      unfold PySem.passOn
      refine wpAny_bind (wpAny_field he hd hT ?_)
      rw [if_neg (show ¬ ((Value.ref T == Value.none) = true) from by simp)]
      first
        | exact wpAny_bind (wpAny_pure (wpAny_bind up))
        | exact wpAny_bind up
  · match fl, done with
    | .next, ⟨τ, G, J, q⟩ => exact wpAny_execs_nil ⟨τ, G, J.ofTry okX, q⟩
    | .brk, ⟨τ, G, J, q⟩ => exact ⟨τ, G, J.ofTry okX, q⟩
    | .cont, ⟨τ, G, J, q⟩ => exact ⟨τ, G, J.ofTry okX, q⟩
    | .ret u, ⟨v, τ, G, J, r, q⟩ => exact ⟨v, τ, G, J.ofTry okX, r, q⟩
/-- isinstance(e, c) of an error that is held -/
def rIsHeld (K : PySem.W.Frag) (D : Addr) : List V → Hp → VK → Prop := fun xs H Q => ∃ (a : Addr) (c : V) (cv : Value) (b : Bool), xs = [.ref a, c] ∧ H a = some (HeldE (.ref D) none a) ∧ ClsV c cv ∧ PySem.W.kitOne K (.ref D) cv = some b ∧ Q (.bl b) H
theorem held_at {pins : List (Addr × Obj)} {σ : L2.St} {H : Hp} {s : Shared} {a D : Addr} (I : Inv X pins σ H s) (h : H a = some (HeldE (.ref D) none a)) : ∃ oe, PySem.W.InstAt s.heap a oe D none := by
  obtain ⟨⟨oe, vs, e, ⟨c1, c2⟩, dd⟩, _⟩ := (show ObjOk X.prog X.w H s.heap a (HeldE (.ref D) none a) from I.hok a _ h)
  obtain ⟨oc, od, oda, osl⟩ := oe
  dsimp only at c1 c2 dd
  subst c1 c2 dd
  exact ⟨_, e, rfl, rfl, trivial⟩
theorem call_isHeld {D : Addr} (C : L2.ExcC X.K D) : CallR X (.builtin "isinstance") (rIsHeld X.K D) := by
  intro pins s σ H xs us Q I r h
  obtain ⟨a, c, cv, b, rfl, ha, k, e, q⟩ := h
  obtain ⟨u1, u2, rfl, r1, r2⟩ := vals2 r
  cases (show u1 = Value.ref a from r1)
  have e2 := k.eq r2
  subst e2
  obtain ⟨oe, J⟩ := held_at I ha
  exact PySem.W.kia_one (PySem.W.handS_kitx_exc C.hg C.hk C.hs C.hd C.ha C.hn C.ht C.hm) I.kIn J e (fun y => nomatch y) fun tk => ⟨.bl b, H, I.tok tk, rfl, q⟩
/-- the same, a tuple of classes that was just laid -/
def rIsHeldT (K : PySem.W.Frag) (D : Addr) : List V → Hp → VK → Prop := fun xs H Q => ∃ (a tp : Addr) (cs : List V) (cvs : List Value) (b : Bool), xs = [.ref a, .ref tp] ∧ H a = some (HeldE (.ref D) none a) ∧ H tp = some (.tup cs) ∧ Paired ClsV cs cvs ∧ PySem.W.kitAny K (.ref D) cvs = some b ∧ Q (.bl b) H
theorem call_isHeldT {D : Addr} (C : L2.ExcC X.K D) : CallR X (.builtin "isinstance") (rIsHeldT X.K D) := by
  intro pins s σ H xs us Q I r h
  obtain ⟨a, tp, cs, cvs, b, rfl, ha, ht, k, e, q⟩ := h
  obtain ⟨u1, u2, rfl, r1, r2⟩ := vals2 r
  cases (show u1 = Value.ref a from r1)
  cases (show u2 = Value.ref tp from r2)
  obtain ⟨oe, J⟩ := held_at I ha
  obtain ⟨its, rv, ⟨o, h1, h2, n, h3⟩, _⟩ := I.tuple (SqT.of ht)
  have e3 := ClsV.all k rv
  subst e3
  obtain ⟨oc, od, dt, sl⟩ := o
  simp only at h2 h3
  subst h2 h3
  exact PySem.W.kia_tup (PySem.W.handS_kitx_exc C.hg C.hk C.hs C.hd C.ha C.hn C.ht C.hm) I.kIn J h1 e (fun y => nomatch y) fun tk => ⟨.bl b, H, I.tok tk, rfl, q⟩
end
end Af

set_option Elab.async false
set_option linter.all false
set_option maxRecDepth 100000
namespace Af
open PySem PySem.Spec PyProof.Rows L2
/-! a def that asks repr, called where no repr is under way; repr of data of any kind -/
structure CalG (P : Program) (w : World) (K : PySem.W.Frag) (mg : Str → Option Value) (base : Heap) (k : Nat) (x : Str) (ps : List Str) (sp : Sp) : Prop where
  ex : ∃ (f : Addr) (fd : FuncData), FnG P w K mg base k f fd ps sp ∧ mg x = some (.ref f) ∧ PySem.W.keepIn K (.ref f) = true ∧ Binds K fd ps []
section
variable {X : Cx} {k j : Nat} {x : Str} {ps : List Str} {sp : Sp} {e : Expr} {es : List Expr} {t : TA} {p pos : Pos}
theorem pe_calG (c : CalG X.prog X.w X.K X.mg X.base k x ps sp) (room : Room j X.A) (quiet : X.A.guards = some []) (ha : PA X (e :: es) t) (hkj : k ≤ j := by decide) (hg : Gl X x := by rfl) (dbg : (x == ("__debug__" : Str)) = false := by decide)
    (he : starEach (e :: es) X.env = (false, eval e X.env) :: starEach es X.env := by rfl) (pl : (backTo pos (starEach es X.env)).any (·.1) = false := by rfl) :
    PE X (.Call (.Name x p) (e :: es) [] pos) (tCal sp t) := by
  obtain ⟨f, fd, G, m, kp, b⟩ := c.ex
  refine ⟨fun pins s σ H Q I h => wpAny_Call_Name_kw (ld_glob I hg m (PySem.W.callWith_K (h₀ := X.base) I.ok.mod.kin kp (thn (ha.run pos pins s σ H _ I h) fun us s1 z => ?_) he pl) dbg)⟩
  obtain ⟨vs, H1, I1, r, q⟩ := z
  refine ⟨I1.kIn, ?_⟩
  have nl : us.length = ps.length := by
    rw [← r.length]
    exact G.many _ _ _ _ q
  have bb := b s1 us I1.kIn (by rw [List.append_nil]; exact nl)
  rw [List.append_nil] at bb
  refine wpAny_call (codeAny_mono (G.goes X.A X.stack s1 H1 ⟨us, []⟩ us vs Q E0 (room.mono hkj) quiet I1.env0 bb r q) fun r s' z => ?_)
  match r, z with
  | .error e, z => exact pass0 pins σ H1 s1 e s' I1 z
  | .ok (.ret u), z => exact I1.after z
  | .ok .next, z => exact (show False from z).elim
  | .ok .brk, z => exact (show False from z).elim
  | .ok .cont, z => exact (show False from z).elim
end
section
variable {X : Cx} {pins : List (Addr × Obj)} {σ : L2.St} {H : Hp} {s : Shared}
def rReprL (K : PySem.W.Frag) : List V → Hp → VK → Prop := fun xs H Q => ∃ (a : Addr) (vs : List V) (ds : List PyData), xs = [.ref a] ∧ H a = some (.lst vs) ∧ DqAll K H vs ds ∧ PyData.showableAll ds = true ∧ PyData.depthAll ds ≤ 60 ∧ (PyData.list ds).shown.length ≤ sizeLine ∧ Q (.str (PyData.list ds).shown) H
/-- repr of a list of data -/
theorem call_reprL (hg : X.A.guards = some []) (hu : X.A.units + 64 < cLine) : CallR X (.builtin "repr") (rReprL X.K) := by
  intro pins s σ H xs us Q I r h
  obtain ⟨a, vs, ds, rfl, hs, hd, sh, dp, sz, q⟩ := h
  obtain ⟨u, rfl, ru⟩ := vals1 r
  cases (show u = Value.ref a from ru)
  obtain ⟨its, rv, ⟨o, n, ho, hc, _, hdd⟩, _⟩ := I.list (SqL.of hs)
  have sz' : (listText (PyData.shownAll ds)).length ≤ sizeLine := by simpa only [PyData.shown] using sz
  obtain ⟨as, bs, hr, hb, hk⟩ := Dq.seesAll I ds vs its hd rv sh fun t ht => Nat.le_trans (listText_mem_le ht) sz'
  have rd : Reads s.heap (.ref a) (.list ds) _ := .list ho hc hdd hr
  have new : a ∉ bs := not_mem_of_deeper rd (by simp only [PyData.depth]; omega) hb
  have txt : (PyData.list ds).shown = listText (PyData.shownAll ds) := by simp only [PyData.shown]
  refine call_repr_slot (T := "list") (by omega) ⟨o, ho, hc⟩ PySem.F.slot_list_repr.toG ?_
  cases its with
  | nil =>
    cases hr
    have e0 : (PyData.list []).shown = ("[]" : Str) := by simp only [PyData.shown, PyData.shownAll, listText_nil]
    refine call_list_repr_empty ⟨o, ho, hc⟩ ho hdd ⟨_, _, rfl, .str (PyData.list []).shown, H, ?_, ⟨_, by rw [e0]⟩, q⟩
    exact I.kept (t' := _) fun _ _ y => y
  | cons y l =>
    refine call_list_reprK ho hc hdd new (by simpa using hk.length_eq) (fun i y e => hk.item i y (by simpa using e)) hg (fun b _ => Clear.nil b) (by show X.A.units + 1 + (PyData.depthAll ds + 1) < cLine; omega) (fun _ _ e => e) (fun h' u tk keep => ?_) sz'
    refine ⟨_, _, rfl, .str (PyData.list ds).shown, H, I.kept keep, ⟨u, ?_⟩, q⟩
    simp only [PyData.shown]
end
end Af

set_option Elab.async false
set_option linter.all false
set_option maxRecDepth 100000
namespace Af
open PySem PySem.Spec PyProof.Rows L2
/-! xs.count(None), exactly; repr of a thing of any kind -/
def rCntX (K : PySem.W.Frag) : V → List V → Hp → VK → Prop := fun x xs H Q => ∃ (p : Addr) (ys : List V) (ds : List PyData), x = .ref p ∧ xs = [.non] ∧ SqL K H p ys ∧ DpAll K H ys ds ∧ PyData.canLayAll0 ds = true ∧ Q (.int ((ds.countP (fun y => PyData.eqv y .none) : Nat) : Int)) H
theorem mt_countX {X : Cx} (hu : X.A.units + 1 < cLine) : MtR X "list.count" (rCntX X.K) := by
  intro pins s σ H x xs v us Q I rx rxs h
  obtain ⟨p, ys, ds, rfl, rfl, hs, hd, hl, q⟩ := h
  cases (show v = Value.ref p from rx)
  obtain ⟨u, rfl, ru⟩ := rxs.one
  cases (show u = Value.none from ru)
  obtain ⟨its, rv, pl, _⟩ := I.list hs
  obtain ⟨as, rs⟩ := Dp.readsAll I ds ys its hd rv
  refine PySem.SeqAt.count_list_data (d := .none) (vs := its.toArray) pl.isList (by simpa using rs) Reads.none (PyData.plainAll_of_canLay0 _ hl) rfl (by show X.A.units + 1 + min _ 0 < cLine; omega) ?_
  exact ⟨.int (ds.countP (fun y => PyData.eqv y .none) : Nat), H, I.tok _, ⟨_, rfl⟩, q⟩
/-- the barriers among these steps -/
def bars (l : List Stp) : Nat := l.countP fun s => s.isNone
theorem bars_count : ∀ l : List Stp, (stepsD l).countP (fun y => PyData.eqv y .none) = bars l
  | [] => rfl
  | a :: l => by
    have e : stepsD (a :: l) = stepD a :: stepsD l := rfl
    unfold bars
    rw [e, List.countP_cons, List.countP_cons, bars_count l]
    cases a with
    | none => rfl
    | some fw =>
      obtain ⟨f, ws⟩ := fw
      rfl
theorem bars_app (a b : List Stp) : bars (a ++ b) = bars a + bars b := List.countP_append ..
/-- repr of data that is no list, tuple or dict -/
def rReprF : List V → Hp → VK → Prop := fun xs H Q => ∃ (x : V) (d : PyData), xs = [x] ∧ (∀ K, Dq K H x d) ∧ flatD d = true ∧ (∀ kvs, d ≠ .dict kvs) ∧ Q (.str d.shown) H
theorem call_reprF {X : Cx} (hg : X.A.guards = some []) (hu : X.A.units + 64 < cLine) : CallR X (.builtin "repr") rReprF := by
  intro pins s σ H xs us Q I r h
  obtain ⟨x, d, rfl, hd, fl, nd, q⟩ := h
  obtain ⟨u, rfl, ru⟩ := vals1 r
  obtain ⟨tx, sh, dp⟩ := flat_len fl
  cases hd X.K with
  | int i =>
    obtain ⟨t, rfl⟩ := ru
    have lg : i.natAbs.log2 < 1920 := of_decide_eq_true (show decide (i.natAbs.log2 < 1920) = true from by simpa only [PyData.showable] using sh)
    refine PySem.P.repr_of_int lg ⟨.str _, H, I.tok _, ⟨_, rfl⟩, ?_⟩
    simpa only [PyData.shown] using q
  | non =>
    cases (show u = Value.none from ru)
    refine PySem.P.repr_of_none ⟨.str _, H, I.tok _, ⟨_, rfl⟩, ?_⟩
    simpa only [PyData.shown] using q
  | bl b =>
    cases (show u = Value.bool b from ru)
    refine PySem.P.repr_of_bool ⟨.str (PyData.bool b).shown, H, I.tok _, ⟨s.toks, ?_⟩, q⟩
    cases b <;> simp only [PyData.shown] <;> rfl
  | str z =>
    obtain ⟨t, rfl⟩ := ru
    refine PySem.P.repr_of_str ⟨.str (PyData.str z).shown, H, I.tok _, ⟨s.toks, ?_⟩, q⟩ ?_
    · simp only [PyData.shown]
    have := of_decide_eq_true fl
    exact Nat.le_trans this (by decide)
  | lst e t => cases fl
  | tup e t => cases fl
  | dic e => exact absurd rfl (nd _)
end Af

set_option Elab.async false
set_option linter.all false
set_option maxRecDepth 100000
set_option maxHeartbeats 4000000
namespace Af
open PySem L2
/-- the epoch of each step -/
def eps : Nat → List Stp → List Int
  | _, [] => []
  | k, s :: r => (k : Int) :: eps (if s.isNone = true then k + 1 else k) r
theorem eps_len : ∀ (l : List Stp) (k : Nat), (eps k l).length = l.length
  | [], _ => rfl
  | a :: l, k => by
    show (eps _ l).length + 1 = l.length + 1
    rw [eps_len l]
theorem eps_snoc (s : Stp) : ∀ (l : List Stp) (k : Nat), eps k (l ++ [s]) = eps k l ++ [((k + bars l : Nat) : Int)]
  | [], k => rfl
  | a :: l, k => by
    show (k : Int) :: eps _ (l ++ [s]) = (k : Int) :: (eps _ l ++ [((k + bars (a :: l) : Nat) : Int)])
    rw [eps_snoc s l]
    have e : bars (a :: l) = bars l + (if a.isNone = true then 1 else 0) := by
      unfold bars
      rw [List.countP_cons]
    rw [e]
    congr 3
    cases a with
    | none =>
      show (((k + 1 + bars l : Nat) : Int)) = ((k + (bars l + 1) : Nat) : Int)
      omega
    | some _ =>
      show (((k + bars l : Nat) : Int)) = ((k + (bars l + 0) : Nat) : Int)
      omega
theorem eps_take {l : List Stp} {i : Nat} {s : Stp} (h : l[i]? = some s) : eps 0 (l.take (i + 1)) = eps 0 (l.take i) ++ [((bars (l.take i) : Nat) : Int)] := by
  rw [List.take_add_one, h]
  show eps 0 (l.take i ++ [s]) = _
  rw [eps_snoc, Nat.zero_add]
theorem bars_take {l : List Stp} {i : Nat} {s : Stp} (h : l[i]? = some s) : bars (l.take (i + 1)) = bars (l.take i) + (if s.isNone = true then 1 else 0) := by
  rw [List.take_add_one, h]
  show bars (l.take i ++ [s]) = _
  rw [bars_app]
  congr 1
  unfold bars
  rw [List.countP_singleton]
def sp_epochsX : Sp := fun vs H Q _ => ∃ (a : Addr) (xs : List V) (sts : List Stp), vs = [.ref a] ∧ H a = some (.lst xs) ∧ Paired (StepV H) xs sts ∧ xs.length ≤ 100 ∧ ∀ l H', Same H H' → H l = none → H' l = some (.lst (ivs (eps 0 sts))) → Q (.ref l) H'
section
variable {P : Program} {w : World} {K : PySem.W.Frag} {mg : Str → Option Value} {base : Heap}
theorem ok_epochsX {f : Addr} {fd : FuncData} (F : Fun K "_epochs_of" "_epochs_of" s_epochs_of f fd) (T : Txt mg) : FnOk P w K mg base CX0 1 f fd ["steps"] sp_epochsX := by
  refine F.ok sc_epochs_of (fun vs H Q E h => ?_) (fun cdv A outer s H vs Q E hr h => ?_)
  · obtain ⟨_, _, _, rfl, _⟩ := h
    rfl
  obtain ⟨a, xs, sts, rfl, ha, hst, xl, k⟩ := h
  have hlen := paired_len hst
  refine ⟨_, (pss_cons (ps_par (i := 1) (j := 2) rfl sc_epochs_of.nd rfl rfl (by decide) rfl rfl (pa_cons (pe_lst' pa_nil) (pa_cons pe_int pa_nil)) (by rfl))
    (pss_cons (ps_for PassesOwn.never rfl (pi_list (pv 0)) (pg_name (i := 3) sc_epochs_of.nd rfl (Or.inl rfl))
      (pss_cons (ps_expr (pe_bm PySem.F.plainAttrs_list PySem.F.slot_list_append PySem.F.type_list_append mt_append (pv 1) (pa_cons (pv 2) pa_nil)))
    (pss_one (ps_if (pt_cmpR op_isN (pv 3) pe_non (nomark _))
      (pss_one (ps_aug (i := 2) sc_epochs_of.nd rfl (Or.inl rfl) pe_int ip_add))
      pss_nil))))
    (pss_one (ps_ret (pv 1))))), ?_⟩
  refine ⟨szr, fun el H1 hel s1 h1 => ⟨_, _, rfl, ?_⟩⟩
  refine ⟨_, rfl, a, rfl, ⟨xs, SqL.of (s1 _ _ ha)⟩, for_list (K := K) (a := a) (xs := xs) (fun i σ' H' => ∃ (v : Option V), σ' = [some (.ref a), some (.ref el), some (.int ((bars (sts.take i) : Nat) : Int)), v] ∧ Same H H' ∧ H' el = some (.lst (ivs (eps 0 (sts.take i))))) ?_ ?_ ?_ ?_⟩
  · exact ⟨none, rfl, s1, h1⟩
  · rintro i σ' H' _ ⟨v, rfl, s2, _⟩
    exact SqL.of (s2 _ _ ha)
  · rintro i x σ' H' hx ⟨v, rfl, s2, h2⟩
    have hi : i < xs.length := (List.getElem?_eq_some_iff.mp hx).1
    obtain ⟨st, hs1, hs2⟩ := paired_get hst hx
    have et := eps_take hs1
    have bt := bars_take hs1
    refine ⟨_, rfl, .inl ⟨rfl, _, SqL.of h2⟩, _, rfl, el, _, _, rfl, rfl, h2, szl (by rw [ivs_len, eps_len, List.length_take]; omega), ?_⟩
    have e2 : (upd H' el (.lst (ivs (eps 0 (sts.take i)) ++ [.int ((bars (sts.take i) : Nat) : Int)]))) el = some (.lst (ivs (eps 0 (sts.take (i + 1))))) := by
      rw [upd_same, et]
      unfold ivs
      rw [List.map_append]
      rfl
    cases st with
    | none =>
      have e : x = .non := hs2
      subst e
      refine ⟨_, rfl, rfl, _, rfl, iteT ?_⟩
      refine ⟨_, rfl, _, _, rfl, rfl, some .non, ?_, same_mut s2 hel, e2⟩
      rw [bt]
      rfl
    | some fw =>
      obtain ⟨f, ws⟩ := fw
      obtain ⟨t, b, e, _, _⟩ := hs2
      subst e
      refine ⟨_, rfl, rfl, _, rfl, iteF ⟨some (.ref t), ?_, same_mut s2 hel, e2⟩⟩
      rw [bt]
      rfl
  · rintro σ' H' ⟨v, rfl, s2, h2⟩
    rw [hlen, List.take_length] at h2
    exact ⟨_, rfl, k el H' s2 hel h2⟩
end
end Af

set_option Elab.async false
set_option linter.all false
set_option maxRecDepth 100000
namespace Af
open PySem L2
abbrev s_is_integer : Stmt := top 8
abbrev N_is_integer : List Str := ["thing"]
theorem sc_is_integer : FnScope N_is_integer ["thing"] (defScope s_is_integer) := ⟨rfl, rfl, rfl, by decide +kernel, rfl, by decide +kernel, by decide +kernel⟩

abbrev s_is_index : Stmt := top 9
abbrev N_is_index : List Str := ["thing", "many"]
theorem sc_is_index : FnScope N_is_index ["thing", "many"] (defScope s_is_index) := ⟨rfl, rfl, rfl, by decide +kernel, rfl, by decide +kernel, by decide +kernel⟩

abbrev s_are_worths : Stmt := top 13
abbrev N_are_worths : List Str := ["thing", "part"]
theorem sc_are_worths : FnScope N_are_worths ["thing"] (defScope s_are_worths) := ⟨rfl, rfl, rfl, by decide +kernel, rfl, by decide +kernel, by decide +kernel⟩

abbrev s_is_content : Stmt := top 14
abbrev N_is_content : List Str := ["thing"]
theorem sc_is_content : FnScope N_is_content ["thing"] (defScope s_is_content) := ⟨rfl, rfl, rfl, by decide +kernel, rfl, by decide +kernel, by decide +kernel⟩

abbrev s_is_width : Stmt := top 18
abbrev N_is_width : List Str := ["thing"]
theorem sc_is_width : FnScope N_is_width ["thing"] (defScope s_is_width) := ⟨rfl, rfl, rfl, by decide +kernel, rfl, by decide +kernel, by decide +kernel⟩

abbrev s_is_step : Stmt := top 19
abbrev N_is_step : List Str := ["cells", "thing", "first", "worths"]
theorem sc_is_step : FnScope N_is_step ["cells", "thing"] (defScope s_is_step) := ⟨rfl, rfl, rfl, by decide +kernel, rfl, by decide +kernel, by decide +kernel⟩

abbrev s_are_steps : Stmt := top 24
abbrev N_are_steps : List Str := ["cells", "width", "thing", "step"]
theorem sc_are_steps : FnScope N_are_steps ["cells", "width", "thing"] (defScope s_are_steps) := ⟨rfl, rfl, rfl, by decide +kernel, rfl, by decide +kernel, by decide +kernel⟩

/-- the module's constants -/
structure Cst (K : PySem.W.Frag) (mg : Str → Option Value) : Prop where
  cells : ∃ t, mg "MOST_CELLS" = some (.int 24 t)
  steps : ∃ t, mg "MOST_STEPS" = some (.int 40 t)
  pieces : ∃ t, mg "MOST_PIECES" = some (.int 40 t)
  worths : ∃ a, mg "ALL_WORTHS" = some (.ref a) ∧ ∀ H, SqT K H a (ivs [0, 1, 2, 3, 4, 5, 6, 7])
def sp_is_integer (K : PySem.W.Frag) : Sp := fun vs H Q _ => ∃ x n, vs = [x] ∧ Ty K H x n ∧ Q (.bl (decide (n = "int"))) H
def sp_is_index (K : PySem.W.Frag) : Sp := fun vs H Q _ => ∃ (x : V) (m : Int) (n : String), vs = [x, .int m] ∧ Ty K H x n ∧ Q (.bl (idxB m x)) H
def sp_is_width (K : PySem.W.Frag) : Sp := fun vs H Q _ => ∃ x n, vs = [x] ∧ Ty K H x n ∧ Q (.bl (widthB x)) H
def sp_are_worths (K : PySem.W.Frag) : Sp := fun vs H Q _ => ∃ x, vs = [x] ∧ Th K H 1 x ∧ ∀ H', Same H H' → Q (.bl (worthsB H x)) H'
def sp_is_content (K : PySem.W.Frag) : Sp := fun vs H Q _ => ∃ x, vs = [x] ∧ Th K H 1 x ∧ ∀ H', Same H H' → Q (.bl (contentB H x)) H'
def sp_is_step (K : PySem.W.Frag) : Sp := fun vs H Q _ => ∃ (m : Int) (x : V), vs = [.int m, x] ∧ Th K H 2 x ∧ ∀ H', Same H H' → Q (.bl (stepB H m x)) H'
def sp_are_steps (K : PySem.W.Frag) (spr : Sp) : Sp := fun vs H Q _ => ∃ (m wd : Int) (x : V), vs = [.int m, .int wd, x] ∧ Th K H 3 x ∧ (stepsB H m x = false → ∀ H', Same H H' → Q (.bl false) H') ∧ (stepsB H m x = true → ∀ H', Same H H' → spr [.int wd, x] H' Q E0)
section
variable {P : Program} {w : World} {K : PySem.W.Frag} {mg : Str → Option Value} {base : Heap}
theorem ok_is_integer {f : Addr} {fd : FuncData} (F : Fun K "is_integer" "is_integer" s_is_integer f fd) (T : Txt mg) : FnOk P w K mg base CX0 1 f fd ["thing"] (sp_is_integer K) := by
  refine F.ok sc_is_integer (fun vs H Q E h => ?_) (fun cdv A outer s H vs Q E hr h => ?_)
  · obtain ⟨_, _, rfl, _⟩ := h
    rfl
  obtain ⟨x, n, rfl, t, k⟩ := h
  refine ⟨_, (pss_one (ps_ret (pe_and (pe_callB call_isi' (by rfl) T.isinstance (by decide +kernel) (pa_cons (pv 0) (pa_cons (pe_bltn (v := .ty "int") (by rfl) T.int (by decide +kernel) rfl) pa_nil))) (pe_one (pe_not (pe_callB call_isi' (by rfl) T.isinstance (by decide +kernel) (pa_cons (pv 0) (pa_cons (pe_bltn (v := .ty "bool") (by rfl) T.bool (by decide +kernel) rfl) pa_nil)))))))), ?_⟩
  refine ⟨_, rfl, x, n, "int", rfl, t, by decide, _, rfl, ?_⟩
  cases c : isB n "int" with
  | true =>
    refine ⟨_, rfl, x, n, "bool", rfl, t, by decide, _, rfl, ?_⟩
    rw [int_one n t.mem c]
    exact k
  | false =>
    rw [int_two n t.mem c] at k
    exact k
theorem ok_is_index {f : Addr} {fd : FuncData} (F : Fun K "is_index" "is_index" s_is_index f fd) (T : Txt mg) (c_is_integer : Cal P w K mg base 1 "is_integer" ["thing"] (sp_is_integer K)) : FnOk P w K mg base CX0 2 f fd ["thing", "many"] (sp_is_index K) := by
  refine F.ok sc_is_index (fun vs H Q E h => ?_) (fun cdv A outer s H vs Q E hr h => ?_)
  · obtain ⟨_, _, _, rfl, _⟩ := h
    rfl
  obtain ⟨x, m, n, rfl, t, k⟩ := h
  refine ⟨_, (pss_one (ps_ret (pe_and (pe_cal c_is_integer hr (pa_cons (pv 0) pa_nil)) (pe_one (pe_chain op_le op_lt pe_int (pv 0) (pv 1)))))), ?_⟩
  refine ⟨_, rfl, x, n, rfl, t, _, rfl, ?_⟩
  by_cases c : n = "int"
  · rw [decide_eq_true c]
    obtain ⟨i, rfl⟩ := ty_int t c
    refine ⟨_, rfl, _, _, rfl, rfl, _, rfl, ?_⟩
    have e : idxB m (.int i) = (decide (0 ≤ i) && decide (i < m)) := rfl
    rw [e] at k
    cases c2 : decide ((0 : Int) ≤ i) with
    | true =>
      rw [c2] at k
      exact ⟨_, rfl, _, _, rfl, rfl, k⟩
    | false =>
      rw [c2] at k
      exact k
  · rw [decide_eq_false c]
    rw [idx_not (no_int t c)] at k
    exact k
theorem ok_is_width {f : Addr} {fd : FuncData} (F : Fun K "is_width" "is_width" s_is_width f fd) (T : Txt mg) (C : Cst K mg) (c_is_integer : Cal P w K mg base 1 "is_integer" ["thing"] (sp_is_integer K)) : FnOk P w K mg base CX0 2 f fd ["thing"] (sp_is_width K) := by
  obtain ⟨tk, c_MOST_CELLS⟩ := C.cells
  refine F.ok sc_is_width (fun vs H Q E h => ?_) (fun cdv A outer s H vs Q E hr h => ?_)
  · obtain ⟨_, _, rfl, _⟩ := h
    rfl
  obtain ⟨x, n, rfl, t, k⟩ := h
  refine ⟨_, (pss_one (ps_ret (pe_and (pe_cal c_is_integer hr (pa_cons (pv 0) pa_nil)) (pe_one (pe_chain op_le op_le pe_int (pv 0) (pe_glob (v := .int 24) rfl c_MOST_CELLS ⟨_, rfl⟩)))))), ?_⟩
  refine ⟨_, rfl, x, n, rfl, t, _, rfl, ?_⟩
  by_cases c : n = "int"
  · rw [decide_eq_true c]
    obtain ⟨i, rfl⟩ := ty_int t c
    refine ⟨_, rfl, _, _, rfl, rfl, _, rfl, ?_⟩
    have e : widthB (.int i) = (decide (1 ≤ i) && decide (i ≤ 24)) := rfl
    rw [e] at k
    cases c2 : decide ((1 : Int) ≤ i) with
    | true =>
      rw [c2] at k
      exact ⟨_, _, rfl, rfl, k⟩
    | false =>
      rw [c2] at k
      exact k
  · rw [decide_eq_false c]
    rw [width_not (no_int t c)] at k
    exact k
theorem ok_are_worths {f : Addr} {fd : FuncData} (F : Fun K "are_worths" "are_worths" s_are_worths f fd) (T : Txt mg) (C : Cst K mg) (c_is_index : Cal P w K mg base 2 "is_index" ["thing", "many"] (sp_is_index K)) : FnOk P w K mg base CX0 3 f fd ["thing"] (sp_are_worths K) := by
  obtain ⟨aw, aw_m, aw_s⟩ := C.worths
  refine F.ok sc_are_worths (fun vs H Q E h => ?_) (fun cdv A outer s H vs Q E hr h => ?_)
  · obtain ⟨_, rfl, _⟩ := h
    rfl
  obtain ⟨x, rfl, th, k⟩ := h
  obtain ⟨n, t⟩ := th.ty
  refine ⟨_, (pss_cons (ps_cut (ps_if (PW.pt (pw_or (pt_not (pt_val (pe_callB call_isi' (by rfl) T.isinstance (by decide +kernel) (pa_cons (pv 0) (pa_cons (pe_bltn (v := .ty "tuple") (by rfl) T.tuple (by decide +kernel) rfl) pa_nil))))) (pw_or1 (pt_not (pt_truth (pv 0) (by intro _; rfl))))))
      (pss_one (ps_ret pe_bl))
      pss_nil))
    (pss_one (ps_ret (pe_callB (cr_all rfl) (by rfl) T.all (by decide +kernel) (pa_cons (pe_lc (own := [("part", 1)]) (g := (gName 1)) (tt := tYes) rfl sc_are_worths.nd (pi_tup (pv 0)) (blkOk_by (own := [("part", 1)]) (N := N_are_worths) (sc := defScope s_are_worths) (by decide +kernel)) (fun _ _ _ _ _ => pg_name (i := 1) sc_are_worths.nd rfl (Or.inl rfl)) (fun _ _ _ _ _ => pts_nil) (fun _ _ _ _ _ => (pe_cal c_is_index hr (pa_cons (pv 1) (pa_cons (pe_callB (r := rLenK K) call_lenK (by rfl) T.len (by decide +kernel) (pa_cons (pe_glob (v := .ref aw) rfl aw_m rfl) pa_nil)) pa_nil))))) pa_nil))))), ?_⟩
  refine ⟨fun σ' H' => ∃ a xs, x = .ref a ∧ H a = some (.tup xs) ∧ xs ≠ [] ∧ σ' = [some x, none] ∧ H = H', ?_, ?_⟩
  · refine ⟨_, rfl, x, n, "tuple", rfl, t, by decide, _, rfl, ?_⟩
    by_cases c : n = "tuple"
    · obtain ⟨a, xs, rfl, ha⟩ := ty_tup t c
      have e : (!isB n "tuple") = false := by rw [c]; decide
      rw [e]
      refine ⟨_, rfl, !xs.isEmpty, .inr (.inl ⟨xs, SqT.of ha, rfl⟩), ?_⟩
      cases xs with
      | nil =>
        have z := k H (Same.refl H)
        rw [worths_at ha] at z
        exact z
      | cons y ys => exact ⟨a, _, rfl, ha, by simp, rfl, rfl⟩
    · rw [tup_not n t.mem c]
      have z := k H (Same.refl H)
      rw [worths_not t c] at z
      exact z
  · rintro _ _ ⟨a, xs, rfl, ha, hne, rfl, rfl⟩
    obtain ⟨hl, hy⟩ := th.2 a xs rfl (.inl ha)
    refine ⟨_, rfl, a, rfl, ⟨xs, SqT.of ha⟩, fun D hD => lc_tup (K := K) (a := a) (xs := xs) (fun i H' => Same H H' ∧ H' D = some (.lst ((xs.take i).map fun y => V.bl (idxB 8 y)))) ?_ ?_ ?_ ?_⟩
    · exact ⟨same_new hD, upd_same⟩
    · rintro i H' _ ⟨s1, _⟩
      exact SqT.of (s1 _ _ ha)
    · rintro i y H' hx ⟨s1, h1⟩
      obtain ⟨n1, t1⟩ := (hy y (List.mem_of_getElem? hx)).ty
      have il : i < xs.length := (List.getElem?_eq_some_iff.mp hx).1
      refine ⟨rfl, _, rfl, aw, _, rfl, .inr (aw_s H'), y, 8, n1, rfl, t1.same s1, _, h1, ?_, same_mut s1 hD, ?_⟩
      · rw [List.length_map, List.length_take]
        exact szl (by omega)
      · rw [upd_same, List.take_add_one, hx]
        simp
    · rintro H' ⟨s1, h1⟩
      rw [List.take_length] at h1
      have z := k H' s1
      rw [worths_at ha] at z
      refine ⟨D, xs.map (idxB 8), rfl, SqL.of (by rw [h1, List.map_map]; rfl), ?_⟩
      have e : (!xs.isEmpty && xs.all (idxB 8)) = (xs.map (idxB 8)).all id := by
        cases xs with
        | nil => exact absurd rfl hne
        | cons y ys => simp
      rw [e] at z
      exact z
theorem ok_is_content {f : Addr} {fd : FuncData} (F : Fun K "is_content" "is_content" s_is_content f fd) (T : Txt mg) (C : Cst K mg) (c_are_worths : Cal P w K mg base 3 "are_worths" ["thing"] (sp_are_worths K)) : FnOk P w K mg base CX0 4 f fd ["thing"] (sp_is_content K) := by
  obtain ⟨tk, c_MOST_CELLS⟩ := C.cells
  refine F.ok sc_is_content (fun vs H Q E h => ?_) (fun cdv A outer s H vs Q E hr h => ?_)
  · obtain ⟨_, rfl, _⟩ := h
    rfl
  obtain ⟨x, rfl, th, k⟩ := h
  refine ⟨_, (pss_one (ps_ret (pe_and (pe_cal c_are_worths hr (pa_cons (pv 0) pa_nil)) (pe_one (pe_cmpR op_le (pe_callB call_len' (by rfl) T.len (by decide +kernel) (pa_cons (pv 0) pa_nil)) (pe_glob (v := .int 24) rfl c_MOST_CELLS ⟨_, rfl⟩) (nomark _)))))), ?_⟩
  refine ⟨_, rfl, x, rfl, th, fun H1 s1 => ⟨_, rfl, ?_⟩⟩
  have z := k H1 s1
  unfold contentB at z
  cases c : worthsB H x with
  | true =>
    obtain ⟨a, xs, rfl, ha, _⟩ := worths_true c
    rw [c, len_at ha] at z
    refine ⟨_, rfl, a, xs, rfl, .inr (s1 _ _ ha), _, _, rfl, rfl, ?_⟩
    have e : decide (((xs.length : Nat) : Int) ≤ 24) = decide (xs.length ≤ 24) := decide_eq_decide.mpr (by omega)
    show Q (V.bl (decide (((xs.length : Nat) : Int) ≤ 24))) H1
    rw [e]
    exact z
  | false =>
    rw [c] at z
    exact z
theorem ok_is_step {f : Addr} {fd : FuncData} (F : Fun K "is_step" "is_step" s_is_step f fd) (T : Txt mg) (c_is_index : Cal P w K mg base 2 "is_index" ["thing", "many"] (sp_is_index K)) (c_are_worths : Cal P w K mg base 3 "are_worths" ["thing"] (sp_are_worths K)) : FnOk P w K mg base CX0 4 f fd ["cells", "thing"] (sp_is_step K) := by
  refine F.ok sc_is_step (fun vs H Q E h => ?_) (fun cdv A outer s H vs Q E hr h => ?_)
  · obtain ⟨_, _, rfl, _⟩ := h
    rfl
  obtain ⟨m, x, rfl, th, k⟩ := h
  obtain ⟨n, t⟩ := th.ty
  refine ⟨_, (pss_cons (ps_if (pt_cmpR op_isN (pv 1) pe_non (nomark _))
      (pss_one (ps_ret pe_bl))
      pss_nil)
    (pss_cons (ps_cut (ps_if (PW.pt (pw_or (pt_not (pt_val (pe_callB call_isi' (by rfl) T.isinstance (by decide +kernel) (pa_cons (pv 1) (pa_cons (pe_bltn (v := .ty "tuple") (by rfl) T.tuple (by decide +kernel) rfl) pa_nil))))) (pw_or1 (pt_cmpR op_ne (pe_callB call_len' (by rfl) T.len (by decide +kernel) (pa_cons (pv 1) pa_nil)) pe_int (nomark _)))))
      (pss_one (ps_ret pe_bl))
      pss_nil))
    (pss_cons (ps_asg (pv 1) (pg_tup rfl (pgs_cons (pg_name (i := 2) sc_is_step.nd rfl (Or.inl rfl)) (pgs_cons (pg_name (i := 3) sc_is_step.nd rfl (Or.inl rfl)) pgs_nil))))
    (pss_one (ps_ret (pe_and (pe_cal c_is_index hr (pa_cons (pv 2) (pa_cons (pv 0) pa_nil))) (pe_and (pe_cal c_are_worths hr (pa_cons (pv 3) pa_nil)) (pe_one (pe_cmpR op_le (pe_op op_add (pv 2) (pe_callB call_len' (by rfl) T.len (by decide +kernel) (pa_cons (pv 3) pa_nil))) (pv 0) (nomark _)))))))))), ?_⟩
  refine ⟨_, rfl, rfl, _, rfl, ite2 (fun c0 => ?_) (fun c0 => ?_)⟩
  · have e : x = .non := of_decide_eq_true c0
    subst e
    exact k H (Same.refl H)
  have xn : x ≠ .non := fun e => c0 (decide_eq_true e)
  refine ⟨fun σ' H' => ∃ a f ws, x = .ref a ∧ H a = some (.tup [f, ws]) ∧ σ' = [some (.int m), some x, none, none] ∧ H = H', ?_, ?_⟩
  · refine ⟨_, rfl, x, n, "tuple", rfl, t, by decide, _, rfl, ?_⟩
    by_cases c : n = "tuple"
    · obtain ⟨a, xs, rfl, ha⟩ := ty_tup t c
      have e : (!isB n "tuple") = false := by rw [c]; decide
      rw [e]
      refine ⟨_, rfl, a, xs, rfl, .inr ha, rfl, _, rfl, ite2 (fun c => ?_) (fun c => ?_)⟩
      · have z := k H (Same.refl H)
        have e2 : stepB H m (.ref a) = false := by
          unfold stepB
          simp only [ha]
          split
          · rename_i f ws e3
            cases e3
            exact absurd c (by show ¬ (!decide (V.int 2 = V.int 2)) = true; decide)
          · rfl
        rw [e2] at z
        exact z
      · have hl : xs.length = 2 := by
          have c' : ¬ (!decide (V.int ((xs.length : Nat) : Int) = V.int 2)) = true := c
          by_cases q : xs.length = 2
          · exact q
          · refine absurd ?_ c'
            rw [decide_eq_false (fun e => q (by injection e; omega))]
            rfl
        match xs, hl with
        | [f, ws], _ => exact ⟨a, f, ws, rfl, ha, rfl, rfl⟩
    · rw [tup_not n t.mem c]
      have z := k H (Same.refl H)
      have e2 : stepB H m x = false := by
        have z2 := no_tup t c
        cases x with
        | non => exact absurd rfl xn
        | ref a =>
          unfold stepB
          simp only
          split
          · rename_i e3
            exact absurd e3 (z2 a _ rfl)
          · rfl
        | _ => rfl
      rw [e2] at z
      exact z
  · rintro _ _ ⟨a, f, ws, rfl, ha, rfl, rfl⟩
    obtain ⟨hl, hy⟩ := th.2 a _ rfl (.inl ha)
    obtain ⟨n1, t1⟩ := (hy f (List.mem_cons_self)).ty
    have th2 := hy ws (List.mem_cons_of_mem _ List.mem_cons_self)
    have e2 : stepB H m (.ref a) = (idxB m f && worthsB H ws && addB m (lenB H ws) f) := by
      unfold stepB
      simp only [ha]
    refine ⟨_, rfl, a, _, rfl, SqT.of ha, rfl, _, _, rfl, _, _, rfl, rfl, ?_⟩
    refine ⟨_, rfl, _, rfl, f, m, n1, rfl, t1, _, rfl, ?_⟩
    rw [e2] at k
    cases c1 : idxB m f with
    | false =>
      rw [c1] at k
      exact k H (Same.refl H)
    | true =>
      rw [c1] at k
      refine ⟨_, rfl, ws, rfl, th2, fun H1 s1 => ⟨_, rfl, ?_⟩⟩
      have z := k H1 s1
      cases c2 : worthsB H ws with
      | false =>
        rw [c2] at z
        exact z
      | true =>
        rw [c2] at z
        obtain ⟨b, ys, rfl, hb, _⟩ := worths_true c2
        rw [len_at hb] at z
        cases f with
        | int i => exact ⟨_, rfl, _, rfl, b, ys, rfl, .inr (s1 _ _ hb), _, _, rfl, rfl, _, rfl, _, _, rfl, rfl, z⟩
        | _ => cases c1
theorem ok_are_steps {f : Addr} {fd : FuncData} {spr : Sp} (F : Fun K "are_steps" "are_steps" s_are_steps f fd) (T : Txt mg) (c_is_step : Cal P w K mg base 4 "is_step" ["cells", "thing"] (sp_is_step K)) (c_is_room : Cal P w K mg base 3 "is_room" ["width", "steps"] spr) : FnOk P w K mg base CX0 5 f fd ["cells", "width", "thing"] (sp_are_steps K spr) := by
  refine F.ok sc_are_steps (fun vs H Q E h => ?_) (fun cdv A outer s H vs Q E hr h => ?_)
  · obtain ⟨_, _, _, rfl, _⟩ := h
    rfl
  obtain ⟨m, wd, x, rfl, th, k0, k1⟩ := h
  obtain ⟨n, t⟩ := th.ty
  refine ⟨_, (pss_cons (ps_cut (ps_if (PW.pt (pw_or (pt_not (pt_val (pe_callB call_isi' (by rfl) T.isinstance (by decide +kernel) (pa_cons (pv 2) (pa_cons (pe_bltn (v := .ty "list") (by rfl) T.list (by decide +kernel) rfl) pa_nil))))) (pw_or1 (pt_not (pt_val (pe_callB (cr_all rfl) (by rfl) T.all (by decide +kernel) (pa_cons (pe_lc (own := [("step", 3)]) (g := (gName 3)) (tt := tYes) rfl sc_are_steps.nd (pi_list (pv 2)) (blkOk_by (own := [("step", 3)]) (N := N_are_steps) (sc := defScope s_are_steps) (by decide +kernel)) (fun _ _ _ _ _ => pg_name (i := 3) sc_are_steps.nd rfl (Or.inl rfl)) (fun _ _ _ _ _ => pts_nil) (fun _ _ _ _ _ => (pe_cal c_is_step hr (pa_cons (pv 0) (pa_cons (pv 3) pa_nil))))) pa_nil)))))))
      (pss_one (ps_ret pe_bl))
      pss_nil))
    (pss_one (ps_ret (pe_cal c_is_room hr (pa_cons (pv 1) (pa_cons (pv 2) pa_nil)))))), ?_⟩
  refine ⟨fun σ' H' => stepsB H m x = true ∧ σ' = [some (.int m), some (.int wd), some x, none] ∧ Same H H', ?_, ?_⟩
  · refine ⟨_, rfl, x, n, "list", rfl, t, by decide, _, rfl, ?_⟩
    by_cases c : n = "list"
    · obtain ⟨a, xs, rfl, ha⟩ := ty_lst t c
      obtain ⟨hl, hy⟩ := th.2 a xs rfl (.inr ha)
      have e : isB n "list" = true := by rw [c]; decide
      rw [e]
      refine ⟨_, rfl, a, rfl, ⟨xs, SqL.of ha⟩, fun D hD => lc_list (K := K) (a := a) (xs := xs) (fun i H' => Same H H' ∧ H' D = some (.lst ((xs.take i).map fun y => V.bl (stepB H m y)))) ?_ ?_ ?_ ?_⟩
      · exact ⟨same_new hD, upd_same⟩
      · rintro i H' _ ⟨s1, _⟩
        exact SqL.of (s1 _ _ ha)
      · rintro i y H' hx ⟨s1, h1⟩
        have th2 := hy y (List.mem_of_getElem? hx)
        have il : i < xs.length := (List.getElem?_eq_some_iff.mp hx).1
        refine ⟨rfl, _, rfl, _, rfl, m, y, rfl, th2.same s1, fun H2 s2 => ⟨_, s2 _ _ h1, ?_, same_mut (s1.trans s2) hD, ?_⟩⟩
        · rw [List.length_map, List.length_take]
          exact szl (by omega)
        · rw [upd_same, List.take_add_one, hx, step_same th2 s1]
          simp
      · rintro H' ⟨s1, h1⟩
        rw [List.take_length] at h1
        have e2 : stepsB H m (.ref a) = (xs.map (stepB H m)).all id := by
          unfold stepsB
          simp only [ha]
          simp
        refine ⟨D, xs.map (stepB H m), rfl, SqL.of (by rw [h1, List.map_map]; rfl), ?_⟩
        rw [← e2]
        refine ⟨_, rfl, ?_⟩
        cases e3 : stepsB H m (.ref a) with
        | true => exact iteF ⟨rfl, rfl, s1⟩
        | false => exact iteT (k0 e3 H' s1)
    · rw [lst_not n t.mem c]
      have e2 : stepsB H m x = false := by
        cases x with
        | ref a =>
          unfold stepsB
          simp only
          split
          · rename_i e3
            exact absurd (ty_is_lst t e3) c
          · rfl
        | _ => rfl
      exact k0 e2 H (Same.refl H)
  · rintro _ H1 ⟨e3, rfl, s1⟩
    exact ⟨_, rfl, _, rfl, k1 e3 H1 s1⟩
end
end Af

set_option Elab.async false
set_option linter.all false
set_option maxRecDepth 100000
namespace Af
open PySem PySem.Calls PySem.Spec PyProof.Rows L2
/-! == and != of an instance whose class has its own __eq__ and no __ne__ -/
section
variable {M : Model} {prog : Program} {w : World} {A : Around} {E : Value → Shared → Prop} {s : Shared} {K : PySem.W.Frag} {x C L f : Addr} {ox : Obj} {od : Option Obj} {b tb : Value} {h₀ : Heap} {m : Str → Option Value}
theorem ifBound_ne {args : List Value} {Q : Option Value → Shared → Prop} (X : K.In s.heap) (I : PySem.W.InstAt s.heap x ox C od) (hs : PySem.W.findIn K (.ref C) "__ne__" = some (some (.builtin "object.__ne__")))
    (h : wpAny M A (call (.builtin "object.__ne__") (.ref x :: args)) (fun v => Q (some v)) E s) : wpAny M A (callSpecialIfBound? (.ref x) "__ne__" args) Q E s := by
  simp only [callSpecialIfBound?, bindSpecialIfBound?]
  refine wpAny_holding (wpAny_bind (wpAny_bind (wpAny_bind (I.type.here ((PySem.W.looks_findIn X hs).here ?_)))))
  refine wpAny_bind (wpAny_askSetting (wpAny_ite ?_))
  have last : wpAny M A (call (.builtin "object.__ne__") ([.ref x] ++ args) >>= fun v => pure (some v)) Q E s := wpAny_bind (wpAny_mono h (fun _ _ q => wpAny_pure q) fun _ _ q => q)
  split
  · exact wpAny_bind (wpAny_of_eq (F.cmp_object.ne.bind _) (wpAny_pure (by exact last)))
  · exact wpAny_tryCatch (wpAny_bind (wpAny_of_eq (F.cmp_object.ne.bind _) (wpAny_pure (by exact last))))
theorem entry_ne {Q : Fin → Shared → Prop} (hu : A.units < cLine) (X : K.In s.heap) (I : PySem.W.InstAt s.heap x ox C od) (hs : PySem.W.findIn K (.ref C) "__eq__" = some (some (.ref f))) (hf : PySem.W.isFn K (.ref f) = true)
    (h : wpAny (model prog w) A (call (.ref f) [.ref x, b]) (fun v s' => ∃ r, v = .bool r ∧ Q (.done (.ret (.bool (!r)))) s') E s) :
    wpAny (model prog w) A (Builtin.«object.__ne__» ⟨[.ref x, b], []⟩) Q E s := by
  unfold Builtin.«object.__ne__»
  repeat (first
    | with_reducible refine wpAny_cRoomFor hu ?_
    | (refine wpAny_bind (m := callSpecialIfBound? (.ref x) (Str.ofString "__eq__") [b])
        (PySem.W.ifBound_K X I hs hf (wpAny_mono h (fun r s' hr => by
          obtain ⟨b, rfl, hq⟩ := hr
          repeat (first | exact hq | exact wpAny_pure hq | exact wpAny_truthy_bool hq | (refine wpAny_bind (m := truthy (.bool _)) (wpAny_truthy_bool ?_)) | wp_step)) fun _ _ e => e)))
    | wp_step)
theorem rc_ne {Q : Value → Shared → Prop} (hu : A.units + 1 < cLine) (Y : PyProof.Rows.Fr h₀ L s.heap m) (X₀ : K.In h₀) (I : PySem.W.InstAt s.heap x ox C od) (hb : PySem.W.Looks (model prog w) s.heap (typeOf b) tb) (hn : PySem.W.notFirst K C tb = true)
    (hs : PySem.W.findIn K (.ref C) "__eq__" = some (some (.ref f))) (hf : PySem.W.isFn K (.ref f) = true) (hne : PySem.W.findIn K (.ref C) "__ne__" = some (some (.builtin "object.__ne__"))) (hm : PySem.W.mroIn K C (.type "object") = some true)
    (h : wpAny (model prog w) A.in1 (call (.ref f) [.ref x, b]) (fun v s' => ∃ r, v = .bool r ∧ Q (.bool (!r)) s') E s) : wpAny (model prog w) A (richCompare .NotEq (.ref x) b) Q E s := by
  have X := X₀.keeps Y.keep
  have one : wpAny (model prog w) A (tryCompare (.ref x) "__ne__" b) (fun r s' => ∃ v, r = some v ∧ Q v s') E s := by
    unfold tryCompare
    refine wpAny_bind (ifBound_ne X I hne (wpAny_call (codeAny_call_builtin F.cmp_object.ne.plain F.cmpEntry_ne (PySem.W.check_slot F.cmpKind_ne F.cmpSplit_ne (I.type.andThen (PySem.W.looks_mroIn X hm)) (F.cmpArgs_ne _ _) (entry_ne (A := A.in1) hu X I hs hf (wpAny_mono h (fun v s' z => ?_) fun _ _ e => e))))))
    obtain ⟨r, rfl, hq⟩ := z
    exact ⟨r, rfl, wpAny_pure ⟨_, rfl, hq⟩⟩
  unfold richCompare
  simp only [oneThing_ref]
  refine wpAny_holding (wpAny_bind (wpAny_cRoomFor (Nat.lt_of_succ_lt hu) ?_))
  refine wpAny_bind (I.type.here (wpAny_bind (hb.here ?_)))
  have go : wpAny (model prog w) A (tryCompare (.ref x) "__ne__" b) (fun r s' => ∃ v, r = some v ∧ Q v s') E s := one
  split
  · rename_i q
    have e : PySem.W.subIn K tb (.ref C) = some false := by
      rcases Bool.or_eq_true_iff.mp hn with e | e
      · rw [beq_iff_eq.mp e] at q; simp at q
      · exact beq_iff_eq.mp e
    refine wpAny_bind ((PySem.W.looks_subIn X e).here ?_)
    simp only [Bool.false_eq_true, if_false]
    refine wpAny_bind (wpAny_mono one (fun r s' z => ?_) fun _ _ e => e)
    obtain ⟨v, rfl, hq⟩ := z
    exact wpAny_pure hq
  · refine wpAny_bind (wpAny_pure ?_)
    simp only [Bool.false_eq_true, if_false]
    refine wpAny_bind (wpAny_mono one (fun r s' z => ?_) fun _ _ e => e)
    obtain ⟨v, rfl, hq⟩ := z
    exact wpAny_pure hq
end
/-- what is asked of the class at C for its own == -/
structure OwnEqC (K : PySem.W.Frag) (C f : Addr) : Prop where
  eq : PySem.W.findIn K (.ref C) "__eq__" = some (some (.ref f))
  fn : PySem.W.isFn K (.ref f) = true
  ne : PySem.W.findIn K (.ref C) "__ne__" = some (some (.builtin "object.__ne__"))
  ob : PySem.W.mroIn K C (.type "object") = some true
/-- x == y where x is an instance: what the own __eq__ promises, which answers a bool -/
def rOwnEq (K : PySem.W.Frag) (C : Addr) (sp : Sp) : R2 := fun x y H Q => ∃ a dx fs t, x = .ref a ∧ H a = some (.ins C dx fs) ∧ TyX K H y t ∧ PySem.W.notFirst K C t = true ∧ sp [x, y] H (fun v H' => ∃ b, v = .bl b ∧ Q (.bl b) H') E0
def rOwnNe (K : PySem.W.Frag) (C : Addr) (sp : Sp) : R2 := fun x y H Q => ∃ a dx fs t, x = .ref a ∧ H a = some (.ins C dx fs) ∧ TyX K H y t ∧ PySem.W.notFirst K C t = true ∧ sp [x, y] H (fun v H' => ∃ b, v = .bl b ∧ Q (.bl (!b)) H') E0
section
variable {X : Cx} {C f : Addr} {fd : FuncData} {ps : List Str} {sp : Sp} {k n : Nat}
theorem own_run (G : FnOk X.prog X.w X.K X.mg X.base CX0 k f fd ps sp) (hb : Binds X.K fd ps []) {A : Around} (hr : Room k A) (hA : A.frames = X.A.frames) {pins : List (Addr × Obj)} {s : Shared} {σ : L2.St} {H : Hp} {x y : V} {v u : Value} (I : Inv X pins σ H s) (rx : RelV x v) (ry : RelV y u)
    {Q : VK} (hq : sp [x, y] H Q E0) : wpAny (model X.prog X.w) A (call (.ref f) [v, u]) (fun r s' => EP X pins σ Q r s') X.xe s := by
  have e0 : Env0 X.prog X.w X.K X.mg X.base A X.stack s H := by
    have e := I.env0
    exact ⟨by rw [hA]; exact e.frames, e.mod, e.bs, e.bsz, e.funs, e.frf, e.hok, e.bare⟩
  have hl := G.len _ _ _ _ hq
  refine wpAny_call (codeAny_mono (G.run A X.stack s H ⟨[v, u], []⟩ [v, u] [x, y] _ E0 hr e0 (by
    have := hb s [v, u] I.kIn (by simpa using hl)
    simpa using this) (.cons rx (.cons ry .nil)) hq) fun r s' z => ?_)
  cases r with
  | error e => exact pass0 pins σ H s e s' I z
  | ok fl =>
    cases fl with
    | ret w => exact I.after z
    | next => exact False.elim z
    | brk => exact False.elim z
    | cont => exact False.elim z
theorem op_ownEq (O : OwnEqC X.K C f) (G : FnOk X.prog X.w X.K X.mg X.base CX0 k f fd ps sp) (hb : Binds X.K fd ps []) (hr : Room n X.A) (hkn : k ≤ n := by decide) : OpR X (compareOp .Eq) (rOwnEq X.K C sp) := by
  intro pins s σ H x y v u Q I rx ry h
  obtain ⟨a, dx, fs, t, rfl, ha, ty, nf, q⟩ := h
  cases (show v = Value.ref a from rx)
  obtain ⟨mA, J, _⟩ := ins_get I.hok ha
  obtain ⟨od, J, _⟩ := J.look
  obtain ⟨P, Z, p, _⟩ := kit_of I ry ty
  obtain ⟨m, hF⟩ := I.fr
  have lk := Z.ty (model X.prog X.w) s.heap I.kIn p
  show wpAny (model X.prog X.w) X.A (richCompare .Eq (.ref a) u) (EP X pins σ Q) X.xe s
  refine PySem.W.cmp_K (op := .Eq) (tb := t) hr.units0 hF I.ok.mod.kin J lk nf O.eq O.fn ?_
  refine wpAny_mono (own_run G hb (hr.mono hkn) rfl (x := .ref a) (v := .ref a) I rfl ry q) (fun r s' z => ?_) fun _ _ z => z
  obtain ⟨v', H', I', rv, b, e, z⟩ := z
  subst e
  cases (show r = Value.bool b from rv)
  exact ⟨.bl b, H', I', rfl, z⟩
theorem op_ownNe (O : OwnEqC X.K C f) (G : FnOk X.prog X.w X.K X.mg X.base CX0 k f fd ps sp) (hb : Binds X.K fd ps []) (hr : Room n X.A) (hkn : k + 1 ≤ n := by decide) : OpR X (compareOp .NotEq) (rOwnNe X.K C sp) := by
  intro pins s σ H x y v u Q I rx ry h
  obtain ⟨a, dx, fs, t, rfl, ha, ty, nf, q⟩ := h
  cases (show v = Value.ref a from rx)
  obtain ⟨mA, J, _⟩ := ins_get I.hok ha
  obtain ⟨od, J, _⟩ := J.look
  obtain ⟨P, Z, p, _⟩ := kit_of I ry ty
  obtain ⟨m, hF⟩ := I.fr
  have lk := Z.ty (model X.prog X.w) s.heap I.kIn p
  show wpAny (model X.prog X.w) X.A (richCompare .NotEq (.ref a) u) (EP X pins σ Q) X.xe s
  have hr' : Room (k + 1) X.A := hr.mono hkn
  refine rc_ne (tb := t) hr'.in1.units0 hF I.ok.mod.kin J lk nf O.eq O.fn O.ne O.ob ?_
  refine wpAny_mono (own_run G hb hr'.in1 rfl (x := .ref a) (v := .ref a) I rfl ry q) (fun r s' z => ?_) fun _ _ z => z
  obtain ⟨v', H', I', rv, b, e, z⟩ := z
  subst e
  cases (show r = Value.bool b from rv)
  exact ⟨b, rfl, .bl (!b), H', I', rfl, z⟩
end
end Af

set_option Elab.async false
set_option linter.all false
set_option maxRecDepth 100000
set_option maxHeartbeats 4000000
namespace Af
open PySem L2
abbrev s_is_room : Stmt := top 20
abbrev N_is_room : List Str := ["width", "steps"]
theorem sc_is_room : FnScope N_is_room ["width", "steps"] (defScope s_is_room) := ⟨rfl, rfl, rfl, by decide +kernel, rfl, by decide +kernel, by decide +kernel⟩

abbrev s_Plan___init : Stmt := inClass (top 25) 0
abbrev N_Plan___init : List Str := ["self", "base", "width", "steps", "epochs", "piece"]
theorem sc_Plan___init : FnScope N_Plan___init ["self", "base", "width", "steps"] (defScope s_Plan___init) := ⟨rfl, rfl, rfl, by decide +kernel, rfl, by decide +kernel, by decide +kernel⟩

/-- what the text has written of the class -/
structure PlanC (K : PySem.W.Frag) (mg : Str → Option Value) (C : Addr) : Prop where
  cl : Cls K C
  nB : NoAttr K C "_base"
  nW : NoAttr K C "_width"
  nS : NoAttr K C "_steps"
  nP : NoAttr K C "_pieces"
  nE : NoAttr K C "_piece_epochs"
  nN : NoAttr K C "_epochs"
  mgC : mg "Plan" = some (.ref C)
  is1 : PySem.W.kitOne K (.ref C) (.ref C) = some true
  is0 : ∀ n ∈ tyNames, PySem.W.kitOne K (.type n) (.ref C) = some false
  first : ∀ n ∈ tyNames, PySem.W.notFirst K C (.type n) = true
  ha : PySem.W.findIn K (.ref C) "__class__" = some (some (.builtin "object.__class__"))
  hn : PySem.W.specialIn K (.builtin "object.__class__") "__get__" = some (some (.builtin "getset_descriptor.__get__"))
  htk : PySem.W.takesIn K (.builtin "object.__class__") = some true
  hm : PySem.W.mroIn K C (.type "object") = some true
theorem PlanC.ty {K : PySem.W.Frag} {mg : Str → Option Value} {C a dx : Addr} {fs : List (Str × V)} {H : Hp} (T : PlanC K mg C) (h : H a = some (.ins C dx fs)) : TyX K H (.ref a) (.ref C) := .base (.ins h T.cl T.ha T.hn T.htk T.hm)
/-- the parts of a plan that the program takes -/
structure OkP (pl : Pl) : Prop where
  c1 : 1 ≤ pl.cs.length
  c24 : pl.cs.length ≤ 24
  cb : ∀ z ∈ pl.cs, 0 ≤ z ∧ z < 8
  w1 : 1 ≤ pl.w
  w24 : pl.w ≤ 24
  st : ∀ x ∈ pl.sts, OkS pl.cs.length x
  sl : pl.sts.length ≤ 40
  pc : (allP pl.w 0 pl.sts).length ≤ 40
def sp_roomX : Sp := fun vs H Q _ => ∃ (wd : Int) (a : Addr) (xs : List V) (sts : List Stp), vs = [.int wd, .ref a] ∧ H a = some (.lst xs) ∧ Paired (StepV H) xs sts ∧ 0 < wd ∧ xs.length ≤ 40 ∧ (∀ x ∈ sts, OkS 24 x) ∧ (allP wd 0 sts).length ≤ 40 ∧
  ∀ H', Same H H' → Q (.bl true) H'
/-- the epoch of each piece -/
def pieceE (sts : List Stp) (ps : List (Int × (Int × List Int))) : List Int := ps.map fun p => ((eps 0 sts)[p.1.toNat]?).getD 0
theorem allP_in {w : Int} : ∀ {l : List Stp} {i : Nat} {p : Int × (Int × List Int)}, p ∈ allP w i l → ∃ j : Nat, p.1 = (j : Int) ∧ i ≤ j ∧ j < i + l.length
  | [], _, _, h => by cases h
  | a :: l, i, p, h => by
    have h' : p ∈ oneP w i a ++ allP w (i + 1) l := h
    rcases List.mem_append.mp h' with h | h
    · cases a with
      | none => cases h
      | some fw =>
        obtain ⟨f, ws⟩ := fw
        obtain ⟨y, _, rfl⟩ := List.mem_map.mp h
        exact ⟨i, rfl, Nat.le_refl _, by rw [List.length_cons]; omega⟩
    · obtain ⟨j, h1, h2, h3⟩ := allP_in h
      exact ⟨j, h1, by omega, by rw [List.length_cons]; omega⟩
def sp_initX (C : Addr) : Sp := fun vs H Q _ => ∃ (x dx ca sa : Addr) (pl : Pl) (xs : List V), vs = [.ref x, .ref ca, .int pl.w, .ref sa] ∧ H x = some (.ins C dx []) ∧ H ca = some (.tup (ivs pl.cs)) ∧ H sa = some (.lst xs) ∧ Paired (StepV H) xs pl.sts ∧ OkP pl ∧
  ∀ H' (sl ql el : Addr) (fs : List (Str × V)) (ys : List V), (∀ a o, a ≠ x → H a = some o → H' a = some o) → H sl = none → H ql = none → H el = none → H' x = some (.ins C dx fs) → fs.lookup ("_base" : Str) = some (.ref ca) → fs.lookup ("_width" : Str) = some (.int pl.w) → fs.lookup ("_steps" : Str) = some (.ref sl) →
    fs.lookup ("_pieces" : Str) = some (.ref ql) → fs.lookup ("_piece_epochs" : Str) = some (.ref el) → fs.lookup ("_epochs" : Str) = some (.int ((bars pl.sts : Nat) + 1)) → fs.lookup ("epoch_of" : Str) = none → H' sl = some (.lst xs) → H' ql = some (.lst ys) → Paired (PieceA H') ys (allP pl.w 0 pl.sts) → H' el = some (.lst (ivs (pieceE pl.sts (allP pl.w 0 pl.sts)))) → Q .non H'
theorem all_idx {ns : List Int} {m : Int} (h : ∀ z ∈ ns, 0 ≤ z ∧ z < m) : (ivs ns).all (idxB m) = true := by
  refine List.all_eq_true.mpr fun x hx => ?_
  obtain ⟨z, hz, rfl⟩ := List.mem_map.mp hx
  obtain ⟨a, b⟩ := h z hz
  show (decide (0 ≤ z) && decide (z < m)) = true
  rw [decide_eq_true a, decide_eq_true b]
  rfl
theorem ivs_ne {ns : List Int} (h : ns ≠ []) : (!(ivs ns).isEmpty) = true := by
  cases ns with
  | nil => exact absurd rfl h
  | cons a b => rfl
theorem th_ints {K : PySem.W.Frag} {H : Hp} {a : Addr} {ns : List Int} (h : H a = some (.tup (ivs ns))) (hl : ns.length ≤ 100000) {d : Nat} : Th K H (d + 1) (.ref a) := by
  refine th_tup h (by rw [ivs_len]; exact hl) fun y hy => ?_
  obtain ⟨z, _, rfl⟩ := List.mem_map.mp hy
  exact th_int
theorem content_ok {H : Hp} {a : Addr} {ns : List Int} (h : H a = some (.tup (ivs ns))) (c1 : 1 ≤ ns.length) (c2 : ns.length ≤ 24) (cb : ∀ z ∈ ns, 0 ≤ z ∧ z < 8) : contentB H (.ref a) = true := by
  unfold contentB
  rw [worths_at h, len_at h, ivs_ne (fun z => by rw [z] at c1; exact absurd c1 (by decide)), all_idx cb, ivs_len, decide_eq_true c2]
  rfl
theorem width_ok {w : Int} (h1 : 1 ≤ w) (h2 : w ≤ 24) : widthB (.int w) = true := by
  show (decide (1 ≤ w) && decide (w ≤ 24)) = true
  rw [decide_eq_true h1, decide_eq_true h2]
  rfl
theorem step_ok {H : Hp} {x : V} {st : Stp} {n : Nat} (h : StepV H x st) (o : OkS n st) : stepB H (n : Int) x = true := by
  cases st with
  | none =>
    have e : x = .non := h
    subst e
    rfl
  | some fw =>
    obtain ⟨f, ws⟩ := fw
    obtain ⟨a, b, rfl, h1, h2⟩ := h
    obtain ⟨o1, o2, o3, o4⟩ := o
    have hp : 0 < ws.length := List.length_pos_iff.mpr o2
    have e : stepB H (n : Int) (.ref a) = (idxB (n : Int) (.int f) && worthsB H (.ref b) && addB (n : Int) (lenB H (.ref b)) (.int f)) := by
      unfold stepB
      simp only [h1]
    rw [e, worths_at h2, len_at h2, ivs_ne o2, all_idx o4, ivs_len]
    show ((decide (0 ≤ f) && decide (f < (n : Int))) && (true && true) && decide (f + (ws.length : Int) ≤ (n : Int))) = true
    rw [decide_eq_true o1, decide_eq_true o3, decide_eq_true (by omega)]
    rfl
theorem th_step {K : PySem.W.Frag} {H : Hp} {x : V} {st : Stp} {n : Nat} (h : StepV H x st) (o : OkS n st) (hn : n ≤ 1000) : Th K H 2 x := by
  cases st with
  | none =>
    have e : x = .non := h
    subst e
    exact th_non
  | some fw =>
    obtain ⟨f, ws⟩ := fw
    obtain ⟨a, b, rfl, h1, h2⟩ := h
    obtain ⟨o1, o2, o3, o4⟩ := o
    refine th_tup h1 (by show 2 ≤ 100000; decide) fun y hy => ?_
    simp only [List.mem_cons, List.not_mem_nil, or_false] at hy
    rcases hy with rfl | rfl
    · exact th_int
    · exact th_ints h2 (by omega)
theorem paired_mem {α β : Type} {F : α → β → Prop} : ∀ {a : List α} {b : List β} {x : α}, Paired F a b → x ∈ a → ∃ y, y ∈ b ∧ F x y
  | _, _, _, .nil, h => by simp at h
  | _, _, x, .cons r t, h => by
    rcases List.mem_cons.mp h with rfl | h
    · exact ⟨_, List.mem_cons_self, r⟩
    · obtain ⟨y, h1, h2⟩ := paired_mem t h
      exact ⟨y, List.mem_cons_of_mem _ h1, h2⟩
theorem steps_ok {H : Hp} {a : Addr} {xs : List V} {sts : List Stp} {n : Nat} (h : H a = some (.lst xs)) (hst : Paired (StepV H) xs sts) (ok : ∀ x ∈ sts, OkS n x) : stepsB H (n : Int) (.ref a) = true := by
  have e : stepsB H (n : Int) (.ref a) = xs.all (stepB H (n : Int)) := by
    unfold stepsB
    simp only [h]
  rw [e]
  refine List.all_eq_true.mpr fun x hx => ?_
  obtain ⟨st, h1, h2⟩ := paired_mem hst hx
  exact step_ok h2 (ok st h1)
theorem th_steps {K : PySem.W.Frag} {H : Hp} {a : Addr} {xs : List V} {sts : List Stp} {n : Nat} (h : H a = some (.lst xs)) (hl : xs.length ≤ 100000) (hst : Paired (StepV H) xs sts) (ok : ∀ x ∈ sts, OkS n x) (hn : n ≤ 1000) : Th K H 3 (.ref a) := by
  refine th_lst h hl fun y hy => ?_
  obtain ⟨st, h1, h2⟩ := paired_mem hst hy
  exact th_step h2 (ok st h1) hn
theorem ok24 {n : Nat} {st : Stp} (h : OkS n st) (hn : n ≤ 24) : OkS 24 st := by
  cases st with
  | none => exact True.intro
  | some fw =>
    obtain ⟨f, ws⟩ := fw
    obtain ⟨o1, o2, o3, o4⟩ := h
    exact ⟨o1, o2, by omega, o4⟩
/-- fields that are set one after the other -/
def fs6 (ca : Addr) (w : Int) (sl pl pe : Addr) (n : V) : List (Str × V) := putF "_epochs" n (putF "_piece_epochs" (.ref pe) (putF "_pieces" (.ref pl) (putF "_steps" (.ref sl) (putF "_width" (.int w) (putF "_base" (.ref ca) [])))))
/-- all but the object at x stands -/
def Ko (x : Addr) (H H' : Hp) : Prop := ∀ a o, a ≠ x → H a = some o → H' a = some o
theorem Ko.same {x : Addr} {H H1 H2 : Hp} (k : Ko x H H1) (s : Same H1 H2) : Ko x H H2 := fun a o n e => s _ _ (k a o n e)
theorem Ko.upd {x : Addr} {H H1 : Hp} {o : HO} (k : Ko x H H1) : Ko x H (L2.upd H1 x o) := fun a u n e => by
  rw [upd_ne n]
  exact k a u n e
theorem steps_ko {x C dx : Addr} {fs : List (Str × V)} {H H' : Hp} (k : Ko x H H') (hx : H x = some (.ins C dx fs)) {xs : List V} {sts : List Stp} (h : Paired (StepV H) xs sts) : Paired (StepV H') xs sts := L2.Paired.mapP h fun v st z => by
  have nt : ∀ {a : Addr} {l : List V}, H a = some (.tup l) → H' a = some (.tup l) := fun {a l} e => k a _ (ne_of e hx (by intro q; cases q)) e
  cases st with
  | none => exact z
  | some fw =>
    obtain ⟨f, ws⟩ := fw
    obtain ⟨a, b, e, h1, h2⟩ := z
    exact ⟨a, b, e, nt h1, nt h2⟩
theorem int_in {ns : List Int} {j : Nat} (h : j < ns.length) : ∃ z : Int, (ivs ns)[j]? = some (.int z) := ⟨_, ivs_get h⟩
theorem len_put {f : Str} {v : V} {fs : List (Str × V)} {n : Nat} (h : fs.length ≤ n) : (putF f v fs).length ≤ n + 1 := Nat.le_trans (length_putF f v fs) (Nat.succ_le_succ h)
theorem put_at {f : Str} {v : V} {fs : List (Str × V)} : (putF f v fs).lookup f = some v := by
  rw [lookup_putF, if_pos rfl]
theorem put_no {f g : Str} {v u : V} {fs : List (Str × V)} (h : fs.lookup g = some u) (n : ¬ g = f := by decide +kernel) : (putF f v fs).lookup g = some u := by
  rw [lookup_putF, if_neg n]
  exact h
section
variable {P : Program} {w : World} {K : PySem.W.Frag} {mg : Str → Option Value} {base : Heap}
theorem ok_roomX {f : Addr} {fd : FuncData} (F : Fun K "is_room" "is_room" s_is_room f fd) (T : Txt mg) (C : Cst K mg) (c_pieces_of : Cal P w K mg base 2 "_pieces_of" ["width", "steps"] sp_piecesX) : FnOk P w K mg base CX0 3 f fd ["width", "steps"] sp_roomX := by
  obtain ⟨tk1, c_MOST_STEPS⟩ := C.steps
  obtain ⟨tk2, c_MOST_PIECES⟩ := C.pieces
  refine F.ok sc_is_room (fun vs H Q E h => ?_) (fun cdv A outer s H vs Q E hr h => ?_)
  · obtain ⟨_, _, _, _, rfl, _⟩ := h
    rfl
  obtain ⟨wd, a, xs, sts, rfl, ha, hst, w0, xl, ok, tl, k⟩ := h
  refine ⟨_, (pss_one (ps_ret (pe_and (pe_cmpR op_le (pe_callB call_len' (by rfl) T.len (by decide +kernel) (pa_cons (pv 1) pa_nil)) (pe_glob (v := .int 40) rfl c_MOST_STEPS ⟨_, rfl⟩) (nomark _)) (pe_one (pe_cmpR op_le (pe_callB call_len' (by rfl) T.len (by decide +kernel) (pa_cons (pe_cal c_pieces_of hr (pa_cons (pv 0) (pa_cons (pv 1) pa_nil))) pa_nil)) (pe_glob (v := .int 40) rfl c_MOST_PIECES ⟨_, rfl⟩) (nomark _)))))), ?_⟩
  refine ⟨_, rfl, a, xs, rfl, .inl ha, _, _, rfl, rfl, _, rfl, ?_⟩
  have e1 : decide (((xs.length : Nat) : Int) ≤ 40) = true := decide_eq_true (by omega)
  rw [e1]
  refine iteT ⟨_, rfl, _, rfl, wd, a, xs, sts, rfl, ha, hst, w0, by omega, ok, fun l H1 ys s1 hl h1 p1 => ?_⟩
  have yl := paired_len p1
  refine ⟨l, ys, rfl, .inl h1, _, _, rfl, rfl, ?_⟩
  have e2 : decide (((ys.length : Nat) : Int) ≤ 40) = true := decide_eq_true (by omega)
  show Q (V.bl (decide (((ys.length : Nat) : Int) ≤ 40))) H1
  rw [e2]
  exact k H1 s1
theorem ok_initX {f C : Addr} {fd : FuncData} (F : Fun K "__init__" "Plan.__init__" s_Plan___init f fd) (T : Txt mg) (TC : PlanC K mg C)
    (c_is_content : Cal P w K mg base 4 "is_content" ["thing"] (sp_is_content K)) (c_is_width : Cal P w K mg base 2 "is_width" ["thing"] (sp_is_width K)) (c_are_steps : Cal P w K mg base 5 "are_steps" ["cells", "width", "thing"] (sp_are_steps K sp_roomX))
    (c_epochs_of : Cal P w K mg base 1 "_epochs_of" ["steps"] sp_epochsX) (c_pieces_of : Cal P w K mg base 2 "_pieces_of" ["width", "steps"] sp_piecesX) :
    FnOk P w K mg base CX0 6 f fd ["self", "base", "width", "steps"] (sp_initX C) := by
  refine F.ok sc_Plan___init (fun vs H Q E h => ?_) (fun cdv A outer s H vs Q E hr h => ?_)
  · obtain ⟨_, _, _, _, _, _, rfl, _⟩ := h
    rfl
  obtain ⟨x, dx, ca, sa, pl, xs, rfl, hx, hca, hsa, hst, gd, k⟩ := h
  refine ⟨_, (pss_cons (ps_cut (ps_if (PW.pt (pw_or (pt_not (pt_val (pe_cal c_is_content hr (pa_cons (pv 1) pa_nil)))) (pw_or (pt_not (pt_val (pe_cal c_is_width hr (pa_cons (pv 2) pa_nil)))) (pw_or1 (pt_not (pt_val (pe_cal c_are_steps hr (pa_cons (pe_callB call_len' (by rfl) T.len (by decide +kernel) (pa_cons (pv 1) pa_nil)) (pa_cons (pv 2) (pa_cons (pv 3) pa_nil))))))))))
      (pss_one ps_never)
      pss_nil))
    (pss_cons (ps_set (i := 4) sc_Plan___init.nd rfl (Or.inr rfl) (pe_cal c_epochs_of hr (pa_cons (pv 3) pa_nil)))
    (pss_cons (ps_fld (pv 0) (pv 1) rfl)
    (pss_cons (ps_fld (pv 0) (pv 2) rfl)
    (pss_cons (ps_fld (pv 0) (pe_callTy call_list' (by rfl) T.list (by decide +kernel) (pa_cons (pv 3) pa_nil)) rfl)
    (pss_cons (ps_fld (pv 0) (pe_cal c_pieces_of hr (pa_cons (pv 2) (pa_cons (pv 3) pa_nil))) rfl)
    (pss_cons (ps_fld (pv 0) (pe_lc (own := [("piece", 5)]) (g := (gName 5)) (tt := tYes) rfl sc_Plan___init.nd (pi_list (pe_fld (pv 0) rfl)) (blkOk_by (own := [("piece", 5)]) (N := N_Plan___init) (sc := defScope s_Plan___init) (by decide +kernel)) (fun _ _ _ _ _ => pg_name (i := 5) sc_Plan___init.nd rfl (Or.inl rfl)) (fun _ _ _ _ _ => pts_nil) (fun _ _ _ _ _ => (pe_ix ix_seq' (pv 4) (pe_ix ix_seq' (pv 5) pe_int (fun _ _ => rfl)) (fun _ _ => rfl)))) rfl)
    (pss_one (ps_fld (pv 0) (pe_op op_add (pe_bm PySem.F.plainAttrs_list PySem.F.slot_list_count PySem.F.type_list_count (mt_countX (Nat.lt_of_le_of_lt (Nat.add_le_add_left (show 1 ≤ 64 by decide) _) hr.units)) (pv 3) (pa_cons pe_non pa_nil)) pe_int) rfl))))))))), ?_⟩
  have xl := paired_len hst
  have l1 := gd.sl
  have l2 := gd.c24
  have l3 := gd.pc
  -- the questions, all of them right
  refine ⟨fun σ' H' => σ' = [some (.ref x), some (.ref ca), some (.int pl.w), some (.ref sa), none, none] ∧ Same H H', ?_, ?_⟩
  · refine ⟨_, rfl, _, rfl, th_ints hca (by omega), fun H1 s1 => ⟨_, rfl, ?_⟩⟩
    rw [content_ok hca gd.c1 gd.c24 gd.cb]
    refine iteF ⟨_, rfl, _, "int", rfl, ⟨.int _, by decide, fun _ _ _ e => by cases e⟩, ?_⟩
    rw [width_ok gd.w1 gd.w24]
    refine ⟨_, rfl, iteF ?_⟩
    have so := steps_ok (s1 _ _ hsa) (steps_same s1 hst) (fun y hy => gd.st y hy)
    refine ⟨_, rfl, ca, _, rfl, .inr (s1 _ _ hca), _, rfl, _, rfl, _, _, .ref sa, rfl, th_steps (s1 _ _ hsa) (by omega) (steps_same s1 hst) (fun y hy => gd.st y hy) (by omega), fun z => ?_, fun _ H2 s2 => ?_⟩
    · rw [ivs_len, so] at z
      cases z
    · exact ⟨pl.w, sa, xs, pl.sts, rfl, s2 _ _ (s1 _ _ hsa), steps_same (s1.trans s2) hst, by have := gd.w1; omega, by omega, fun y hy => ok24 (gd.st y hy) gd.c24, gd.pc, fun H3 s3 => ⟨_, rfl, iteF ⟨rfl, s1.trans (s2.trans s3)⟩⟩⟩
  rintro _ H2 ⟨rfl, S2⟩
  -- the epochs of the steps
  refine ⟨_, rfl, sa, xs, pl.sts, rfl, S2 _ _ hsa, steps_same S2 hst, by omega, fun el H3 s3 hel h3 => ?_⟩
  have k3 : Ko x H H3 := fun a o _ e => (S2.trans s3) _ _ e
  have x3 : H3 x = some (.ins C dx []) := (S2.trans s3) _ _ hx
  have nca : ca ≠ x := ne_of hca hx (by intro q; cases q)
  have nsa : sa ≠ x := ne_of hsa hx (by intro q; cases q)
  have nel : el ≠ x := ne_of h3 x3 (by intro q; cases q)
  -- base, width, steps
  refine ⟨_, rfl, _, rfl, x, C, dx, _, rfl, x3, TC.cl, TC.nB, by show 0 < 1000; decide, ?_⟩
  refine ⟨_, rfl, _, rfl, x, C, dx, _, rfl, upd_same, TC.cl, TC.nW, Nat.lt_of_le_of_lt (len_put (Nat.le_refl _)) (by decide), ?_⟩
  have k5 := (k3.upd (o := .ins C dx (putF "_base" (.ref ca) []))).upd (o := .ins C dx (putF "_width" (.int pl.w) (putF "_base" (.ref ca) [])))
  have e5 : (L2.upd (L2.upd H3 x (.ins C dx (putF "_base" (.ref ca) []))) x (.ins C dx (putF "_width" (.int pl.w) (putF "_base" (.ref ca) [])))) el = some (.lst (ivs (eps 0 pl.sts))) := by rw [upd_ne nel, upd_ne nel]; exact h3
  generalize hH5 : L2.upd (L2.upd H3 x (.ins C dx (putF "_base" (.ref ca) []))) x (.ins C dx (putF "_width" (.int pl.w) (putF "_base" (.ref ca) []))) = H5 at k5 e5
  have x5 : H5 x = some (.ins C dx (putF "_width" (.int pl.w) (putF "_base" (.ref ca) []))) := by rw [← hH5]; exact upd_same
  have f5 : ∀ a, H5 a = none → H a = none := fun a e => by
    cases z : H a with
    | none => rfl
    | some o =>
      by_cases n : a = x
      · rw [n, x5] at e
        cases e
      · rw [k5 a o n z] at e
        cases e
  refine ⟨_, rfl, sa, xs, rfl, .inl (k5 _ _ nsa hsa), fun sl H6 hsl s6 h6 => ?_⟩
  have x6 := s6 _ _ x5
  have nsl : sl ≠ x := ne_of h6 x6 (by intro q; cases q)
  refine ⟨_, rfl, x, C, dx, _, rfl, x6, TC.cl, TC.nS, Nat.lt_of_le_of_lt (len_put (len_put (Nat.le_refl _))) (by decide), ?_⟩
  have k7 := (k5.same s6).upd (o := .ins C dx (putF "_steps" (.ref sl) (putF "_width" (.int pl.w) (putF "_base" (.ref ca) []))))
  -- the pieces
  refine ⟨_, rfl, _, rfl, pl.w, sa, xs, pl.sts, rfl, k7 _ _ nsa hsa, steps_ko k7 hx hst, by have := gd.w1; omega, by omega, fun y hy => ok24 (gd.st y hy) gd.c24, fun ql H8 ys s8 hql h8 pv => ?_⟩
  have ylen := paired_len pv
  have x8 := s8 _ _ (upd_same (H := H6) (a := x) (o := .ins C dx (putF "_steps" (.ref sl) (putF "_width" (.int pl.w) (putF "_base" (.ref ca) [])))))
  have k8 := k7.same s8
  have nql : ql ≠ x := ne_of h8 x8 (by intro q; cases q)
  refine ⟨_, rfl, x, C, dx, _, rfl, x8, TC.cl, TC.nP, Nat.lt_of_le_of_lt (len_put (len_put (len_put (Nat.le_refl _)))) (by decide), ?_⟩
  have sl8 : H8 sl = some (.lst xs) := s8 _ _ (by rw [upd_ne nsl]; exact h6)
  have el8 : H8 el = some (.lst (ivs (eps 0 pl.sts))) := s8 _ _ (by rw [upd_ne nel]; exact s6 _ _ e5)
  -- their epochs
  have k9 := k8.upd (o := .ins C dx (putF "_pieces" (.ref ql) (putF "_steps" (.ref sl) (putF "_width" (.int pl.w) (putF "_base" (.ref ca) [])))))
  have q9 : (L2.upd H8 x (.ins C dx (putF "_pieces" (.ref ql) (putF "_steps" (.ref sl) (putF "_width" (.int pl.w) (putF "_base" (.ref ca) [])))))) ql = some (.lst ys) := by rw [upd_ne nql]; exact h8
  have el9 : (L2.upd H8 x (.ins C dx (putF "_pieces" (.ref ql) (putF "_steps" (.ref sl) (putF "_width" (.int pl.w) (putF "_base" (.ref ca) [])))))) el = some (.lst (ivs (eps 0 pl.sts))) := by rw [upd_ne nel]; exact el8
  have sl9 : (L2.upd H8 x (.ins C dx (putF "_pieces" (.ref ql) (putF "_steps" (.ref sl) (putF "_width" (.int pl.w) (putF "_base" (.ref ca) [])))))) sl = some (.lst xs) := by rw [upd_ne nsl]; exact sl8
  have p9 : Paired (PieceA (L2.upd H8 x (.ins C dx (putF "_pieces" (.ref ql) (putF "_steps" (.ref sl) (putF "_width" (.int pl.w) (putF "_base" (.ref ca) []))))))) ys (allP pl.w 0 pl.sts) := L2.Paired.mapP pv fun v p z => by
    obtain ⟨t, b, e, ht, hb⟩ := z
    exact ⟨t, b, e, by rw [upd_ne (ne_of ht x8 (by intro q; cases q))]; exact ht, by rw [upd_ne (ne_of hb x8 (by intro q; cases q))]; exact hb⟩
  have x9 : (L2.upd H8 x (.ins C dx (putF "_pieces" (.ref ql) (putF "_steps" (.ref sl) (putF "_width" (.int pl.w) (putF "_base" (.ref ca) [])))))) x = _ := upd_same
  generalize L2.upd H8 x (.ins C dx (putF "_pieces" (.ref ql) (putF "_steps" (.ref sl) (putF "_width" (.int pl.w) (putF "_base" (.ref ca) []))))) = H9 at k9 q9 el9 sl9 p9 x9
  refine ⟨_, rfl, x, C, dx, _, _, rfl, x9, TC.cl, TC.nP, put_at, ql, rfl, ⟨ys, SqL.of q9⟩, fun D hD => lc_list (K := K) (a := ql) (xs := ys) (fun i H' => Same H9 H' ∧ H' D = some (.lst (ivs ((pieceE pl.sts (allP pl.w 0 pl.sts)).take i)))) ?_ ?_ ?_ ?_⟩
  · exact ⟨same_new hD, upd_same⟩
  · rintro i H' _ ⟨s10, _⟩
    exact SqL.of (s10 _ _ q9)
  · rintro i y H' hy ⟨s10, h10⟩
    have il : i < ys.length := (List.getElem?_eq_some_iff.mp hy).1
    obtain ⟨p, hp1, t, b, rfl, ht, hb⟩ := paired_get p9 hy
    obtain ⟨j, hj1, _, hj2⟩ := allP_in (List.mem_of_getElem? hp1)
    have jl : j < (eps 0 pl.sts).length := by rw [eps_len]; omega
    have ge : (pieceE pl.sts (allP pl.w 0 pl.sts))[i]? = some (eps 0 pl.sts)[j] := by
      unfold pieceE
      rw [List.getElem?_map, hp1]
      show some (((eps 0 pl.sts)[p.1.toNat]?).getD 0) = _
      rw [hj1, Int.toNat_natCast, List.getElem?_eq_getElem jl]
      rfl
    have ht' := s10 _ _ ht
    rw [hj1] at ht'
    refine ⟨rfl, _, rfl, _, rfl, t, _, _, _, rfl, rfl, .inr ht', rfl, el, _, _, _, rfl, rfl, .inl (s10 _ _ el9), atI_nat (ivs_get jl), _, h10, szl (by rw [ivs_len, List.length_take]; omega), same_mut s10 hD, ?_⟩
    rw [upd_same, List.take_add_one, ge]
    unfold ivs
    rw [List.map_append]
    rfl
  · rintro H10 ⟨s10, h10⟩
    have pl' : (pieceE pl.sts (allP pl.w 0 pl.sts)).length = ys.length := by
      unfold pieceE
      rw [List.length_map, ylen]
    rw [← pl', List.take_length] at h10
    have x10 := s10 _ _ x9
    have nD : D ≠ x := ne_of h10 x10 (by intro q; cases q)
    refine ⟨_, rfl, x, C, dx, _, rfl, x10, TC.cl, TC.nE, Nat.lt_of_le_of_lt (len_put (len_put (len_put (len_put (Nat.le_refl _))))) (by decide), ?_⟩
    have k11 := (k9.same s10).upd (o := .ins C dx (putF "_piece_epochs" (.ref D) (putF "_pieces" (.ref ql) (putF "_steps" (.ref sl) (putF "_width" (.int pl.w) (putF "_base" (.ref ca) []))))))
    refine ⟨_, rfl, .inl ⟨rfl, _, SqL.of (k11 _ _ nsa hsa)⟩, sa, xs, _, rfl, rfl, SqL.of (k11 _ _ nsa hsa), dp_steps (steps_ko k11 hx hst), (lay_steps _).1, ⟨_, _, rfl, rfl, ?_⟩⟩
    refine ⟨_, rfl, x, C, dx, _, rfl, upd_same, TC.cl, TC.nN, Nat.lt_of_le_of_lt (len_put (len_put (len_put (len_put (len_put (Nat.le_refl _)))))) (by decide), ?_⟩
    rw [bars_count]
    have f8 : ∀ c, (L2.upd H6 x (.ins C dx (putF "_steps" (.ref sl) (putF "_width" (.int pl.w) (putF "_base" (.ref ca) []))))) c = none → H c = none := fun c e => by
      cases z : H c with
      | none => rfl
      | some o =>
        by_cases n : c = x
        · rw [n, upd_same] at e
          cases e
        · rw [k7 c o n z] at e
          cases e
    have f9 : ∀ c, H9 c = none → H c = none := fun c e => by
      cases z : H c with
      | none => rfl
      | some o =>
        by_cases n : c = x
        · rw [n, x9] at e
          cases e
        · rw [k9 c o n z] at e
          cases e
    refine k _ sl ql D _ ys k11.upd (f5 _ hsl) (f8 _ hql) (f9 _ hD) upd_same ?_ ?_ ?_ ?_ ?_ put_at (by rfl) ?_ ?_ ?_ ?_
    · exact put_no (put_no (put_no (put_no (put_no put_at))))
    · exact put_no (put_no (put_no (put_no put_at)))
    · exact put_no (put_no (put_no put_at))
    · exact put_no (put_no put_at)
    · exact put_no put_at
    · rw [upd_ne nsl, upd_ne nsl]
      exact s10 _ _ sl9
    · rw [upd_ne nql, upd_ne nql]
      exact s10 _ _ q9
    · refine L2.Paired.mapP p9 fun v p z => ?_
      obtain ⟨t, b, e, ht, hb⟩ := z
      have ht' := s10 _ _ ht
      have hb' := s10 _ _ hb
      exact ⟨t, b, e, by rw [upd_ne (ne_of ht' x10 (by intro q; cases q)), upd_ne (ne_of ht' x10 (by intro q; cases q))]; exact ht', by rw [upd_ne (ne_of hb' x10 (by intro q; cases q)), upd_ne (ne_of hb' x10 (by intro q; cases q))]; exact hb'⟩
    · rw [upd_ne nD, upd_ne nD]
      exact h10
end
end Af

set_option Elab.async false
set_option linter.all false
set_option maxRecDepth 100000
namespace Af
open PySem L2
abbrev s_Plan_base : Stmt := inClass (top 25) 1
abbrev N_Plan_base : List Str := ["self"]
theorem sc_Plan_base : FnScope N_Plan_base ["self"] (defScope s_Plan_base) := ⟨rfl, rfl, rfl, by decide +kernel, rfl, by decide +kernel, by decide +kernel⟩

abbrev s_Plan_width : Stmt := inClass (top 25) 2
abbrev N_Plan_width : List Str := ["self"]
theorem sc_Plan_width : FnScope N_Plan_width ["self"] (defScope s_Plan_width) := ⟨rfl, rfl, rfl, by decide +kernel, rfl, by decide +kernel, by decide +kernel⟩

abbrev s_Plan_steps : Stmt := inClass (top 25) 3
abbrev N_Plan_steps : List Str := ["self"]
theorem sc_Plan_steps : FnScope N_Plan_steps ["self"] (defScope s_Plan_steps) := ⟨rfl, rfl, rfl, by decide +kernel, rfl, by decide +kernel, by decide +kernel⟩

abbrev s_Plan_pieces : Stmt := inClass (top 25) 4
abbrev N_Plan_pieces : List Str := ["self"]
theorem sc_Plan_pieces : FnScope N_Plan_pieces ["self"] (defScope s_Plan_pieces) := ⟨rfl, rfl, rfl, by decide +kernel, rfl, by decide +kernel, by decide +kernel⟩

abbrev s_Plan_epochs : Stmt := inClass (top 25) 5
abbrev N_Plan_epochs : List Str := ["self"]
theorem sc_Plan_epochs : FnScope N_Plan_epochs ["self"] (defScope s_Plan_epochs) := ⟨rfl, rfl, rfl, by decide +kernel, rfl, by decide +kernel, by decide +kernel⟩

/-- a plan that was made: its six fields and its lists -/
structure PlanX (C x ca sl ql el : Addr) (H : Hp) (pl : Pl) (xs ys : List V) : Prop where
  ins : ∃ dx fs, H x = some (.ins C dx fs) ∧ fs.lookup ("_base" : Str) = some (.ref ca) ∧ fs.lookup ("_width" : Str) = some (.int pl.w) ∧ fs.lookup ("_steps" : Str) = some (.ref sl) ∧
    fs.lookup ("_pieces" : Str) = some (.ref ql) ∧ fs.lookup ("_piece_epochs" : Str) = some (.ref el) ∧ fs.lookup ("_epochs" : Str) = some (.int ((bars pl.sts : Nat) + 1)) ∧ fs.lookup ("epoch_of" : Str) = none
  steps : H sl = some (.lst xs)
  pieces : H ql = some (.lst ys)
  eps : H el = some (.lst (ivs (pieceE pl.sts (allP pl.w 0 pl.sts))))
def sp_p_base (C : Addr) : Sp := fun vs H Q _ => ∃ (x ca sl ql el : Addr) (pl : Pl) (xs ys : List V), vs = [.ref x] ∧ PlanX C x ca sl ql el H pl xs ys ∧ Q (.ref ca) H
def sp_p_width (C : Addr) : Sp := fun vs H Q _ => ∃ (x ca sl ql el : Addr) (pl : Pl) (xs ys : List V), vs = [.ref x] ∧ PlanX C x ca sl ql el H pl xs ys ∧ Q (.int pl.w) H
def sp_p_steps (C : Addr) : Sp := fun vs H Q _ => ∃ (x ca sl ql el : Addr) (pl : Pl) (xs ys : List V), vs = [.ref x] ∧ PlanX C x ca sl ql el H pl xs ys ∧ ∀ l H', Same H H' → H l = none → H' l = some (.lst xs) → Q (.ref l) H'
def sp_p_pieces (C : Addr) : Sp := fun vs H Q _ => ∃ (x ca sl ql el : Addr) (pl : Pl) (xs ys : List V), vs = [.ref x] ∧ PlanX C x ca sl ql el H pl xs ys ∧ ∀ l H', Same H H' → H l = none → H' l = some (.lst ys) → Q (.ref l) H'
def sp_p_epochs (C : Addr) : Sp := fun vs H Q _ => ∃ (x ca sl ql el : Addr) (pl : Pl) (xs ys : List V), vs = [.ref x] ∧ PlanX C x ca sl ql el H pl xs ys ∧ Q (.int ((bars pl.sts : Nat) + 1)) H
section
variable {P : Program} {w : World} {K : PySem.W.Frag} {mg : Str → Option Value} {base : Heap}
theorem ok_p_base {f C : Addr} {fd : FuncData} (F : Fun K "base" "Plan.base" s_Plan_base f fd) (TC : PlanC K mg C) : FnOk P w K mg base CX0 1 f fd ["self"] (sp_p_base C) := by
  refine F.ok sc_Plan_base (fun vs H Q E h => ?_) (fun cdv A outer s H vs Q E hr h => ?_)
  · obtain ⟨_, _, _, _, _, _, _, _, rfl, _⟩ := h
    rfl
  obtain ⟨x, ca, sl, ql, el, pl, xs, ys, rfl, ⟨⟨dx, fs, hx, hB, hW, hS, hP, hE, hN, hM⟩, h1, h2, h3⟩, k⟩ := h
  refine ⟨_, (pss_one (ps_ret (pe_fld (pv 0) rfl))), ?_⟩
  exact ⟨_, rfl, x, C, dx, fs, _, rfl, hx, TC.cl, TC.nB, hB, k⟩
theorem ok_p_width {f C : Addr} {fd : FuncData} (F : Fun K "width" "Plan.width" s_Plan_width f fd) (TC : PlanC K mg C) : FnOk P w K mg base CX0 1 f fd ["self"] (sp_p_width C) := by
  refine F.ok sc_Plan_width (fun vs H Q E h => ?_) (fun cdv A outer s H vs Q E hr h => ?_)
  · obtain ⟨_, _, _, _, _, _, _, _, rfl, _⟩ := h
    rfl
  obtain ⟨x, ca, sl, ql, el, pl, xs, ys, rfl, ⟨⟨dx, fs, hx, hB, hW, hS, hP, hE, hN, hM⟩, h1, h2, h3⟩, k⟩ := h
  refine ⟨_, (pss_one (ps_ret (pe_fld (pv 0) rfl))), ?_⟩
  exact ⟨_, rfl, x, C, dx, fs, _, rfl, hx, TC.cl, TC.nW, hW, k⟩
theorem ok_p_steps {f C : Addr} {fd : FuncData} (F : Fun K "steps" "Plan.steps" s_Plan_steps f fd) (T : Txt mg) (TC : PlanC K mg C) : FnOk P w K mg base CX0 1 f fd ["self"] (sp_p_steps C) := by
  refine F.ok sc_Plan_steps (fun vs H Q E h => ?_) (fun cdv A outer s H vs Q E hr h => ?_)
  · obtain ⟨_, _, _, _, _, _, _, _, rfl, _⟩ := h
    rfl
  obtain ⟨x, ca, sl, ql, el, pl, xs, ys, rfl, ⟨⟨dx, fs, hx, hB, hW, hS, hP, hE, hN, hM⟩, h1, h2, h3⟩, k⟩ := h
  refine ⟨_, (pss_one (ps_ret (pe_callTy call_list' (by rfl) T.list (by decide +kernel) (pa_cons (pe_fld (pv 0) rfl) pa_nil)))), ?_⟩
  refine ⟨_, rfl, x, C, dx, fs, _, rfl, hx, TC.cl, TC.nS, hS, ?_⟩
  exact ⟨sl, _, rfl, .inl h1, fun c H2 hc s3 h3 => k c H2 s3 hc h3⟩
theorem ok_p_pieces {f C : Addr} {fd : FuncData} (F : Fun K "pieces" "Plan.pieces" s_Plan_pieces f fd) (T : Txt mg) (TC : PlanC K mg C) : FnOk P w K mg base CX0 1 f fd ["self"] (sp_p_pieces C) := by
  refine F.ok sc_Plan_pieces (fun vs H Q E h => ?_) (fun cdv A outer s H vs Q E hr h => ?_)
  · obtain ⟨_, _, _, _, _, _, _, _, rfl, _⟩ := h
    rfl
  obtain ⟨x, ca, sl, ql, el, pl, xs, ys, rfl, ⟨⟨dx, fs, hx, hB, hW, hS, hP, hE, hN, hM⟩, h1, h2, h3⟩, k⟩ := h
  refine ⟨_, (pss_one (ps_ret (pe_callTy call_list' (by rfl) T.list (by decide +kernel) (pa_cons (pe_fld (pv 0) rfl) pa_nil)))), ?_⟩
  refine ⟨_, rfl, x, C, dx, fs, _, rfl, hx, TC.cl, TC.nP, hP, ?_⟩
  exact ⟨ql, _, rfl, .inl h2, fun c H2 hc s3 h3 => k c H2 s3 hc h3⟩
theorem ok_p_epochs {f C : Addr} {fd : FuncData} (F : Fun K "epochs" "Plan.epochs" s_Plan_epochs f fd) (TC : PlanC K mg C) : FnOk P w K mg base CX0 1 f fd ["self"] (sp_p_epochs C) := by
  refine F.ok sc_Plan_epochs (fun vs H Q E h => ?_) (fun cdv A outer s H vs Q E hr h => ?_)
  · obtain ⟨_, _, _, _, _, _, _, _, rfl, _⟩ := h
    rfl
  obtain ⟨x, ca, sl, ql, el, pl, xs, ys, rfl, ⟨⟨dx, fs, hx, hB, hW, hS, hP, hE, hN, hM⟩, h1, h2, h3⟩, k⟩ := h
  refine ⟨_, (pss_one (ps_ret (pe_fld (pv 0) rfl))), ?_⟩
  exact ⟨_, rfl, x, C, dx, fs, _, rfl, hx, TC.cl, TC.nN, hN, k⟩
end
end Af

set_option Elab.async false
set_option linter.all false
set_option maxRecDepth 100000
namespace Af
open PySem PySem.Spec PySem.Calls PyProof.Rows PySem.SeqAt L2
open AutoSeq1 (wpAny_loadPart')
/-! a tuple times 0, 1, or more -/
theorem mul_one (l : Addr) (items : Array Value) (n : Nat) (dd : Option Addr) (sl : Array (Option Value)) (u : Tok) :
    Meets (Builtin.«tuple.__mul__» ⟨[.ref l, .int 1 u], []⟩) (fun _ R s => s.heap.get? l = some { cls := .type "tuple", dict := dd, data := .seq items n, slots := sl } ∧ R (.ok (.ret (Value.ref l))) s) :=
  .of_wp fun prog w A R s h => by
    obtain ⟨hp, g, d, tk, os⟩ := s
    obtain ⟨hl, h⟩ := h
    have f1 := AutoSeq1.idx_int
    wp_walk using wpAny_loadPart' hl
    exact ⟨_, rfl, h⟩
theorem mul_zero (l : Addr) (items : Array Value) (n : Nat) (dd : Option Addr) (sl : Array (Option Value)) (u : Tok) (hi : items.isEmpty = false) :
    Meets (Builtin.«tuple.__mul__» ⟨[.ref l, .int 0 u], []⟩) (fun _ R s => s.heap.get? l = some { cls := .type "tuple", dict := dd, data := .seq items n, slots := sl } ∧
      R (.ok (.ret (Value.ref s.heap.objs.size))) { s with heap := s.heap.push { cls := Value.type "tuple", data := Data.seq #[] }, toks := s.toks }) :=
  .of_wp fun prog w A R s h => by
    obtain ⟨hp, g, d, tk, os⟩ := s
    obtain ⟨hl, h⟩ := h
    have f1 := AutoSeq1.idx_int
    wp_walk using wpAny_loadPart' hl
    exact ⟨_, rfl, h⟩
def rRepT' : R2 := fun x y H Q => ∃ l k xs, x = .ref l ∧ y = .int k ∧ H l = some (.tup xs) ∧ xs ≠ [] ∧ 0 ≤ k ∧ k ≤ 1000 ∧ xs.length ≤ 1000 ∧ NewT (List.replicate k.toNat xs).flatten H Q
theorem op_repT' {X : Cx} : OpR X (binaryOp .Mult) rRepT' := by
  intro pins s σ H x y v u Q I rx ry h
  obtain ⟨l, k, xs, rfl, rfl, hT, ne, h1, h2, hz, q⟩ := h
  by_cases two : 2 ≤ k
  · exact op_repT pins s σ H _ _ v u Q I rx ry ⟨l, k, xs, rfl, rfl, SqT.of hT, ne, two, h2, hz, fun p hp => q p _ (same_new hp) upd_same⟩
  cases (show v = Value.ref l from rx)
  obtain ⟨t, rfl⟩ := (show ∃ t, u = Value.int k t from ry)
  obtain ⟨its, r, ⟨⟨cls, dd, data, sl⟩, ho, hc, n, hd⟩, hs⟩ := I.tuple (SqT.of hT)
  simp only at hc hd
  subst hc hd
  have many : its.length = xs.length := r.length.symm
  have some_ : its.toArray.isEmpty = false := by
    cases its with
    | nil => exact absurd (List.eq_nil_of_length_eq_zero many.symm) ne
    | cons a b => rfl
  have go : ∀ {R : Value → Shared → Prop} {E : Value → Shared → Prop}, wpAny (model X.prog X.w) X.A.in1 (call (.builtin "tuple.__mul__") [.ref l, .int k t]) R E s → True := fun _ => trivial
  rcases (show k = 0 ∨ k = 1 by omega) with rfl | rfl
  · refine wpAny_binaryOp_repeat_ref (T := "tuple") (U := "int") (by decide) ⟨_, ho, rfl⟩ (fun s' => typeIs_int s' 0 t) noFill_tuple_mul F.fills_int_mul F.slot_int_rmul repeat_tuple F.slot_int_index.lookup
      (call_meets F.slot_int_rmul (typeIs_int s 0 t) F.entry_int_rmul (F.args_int_rmul_2 _ _) (int_rmul_tuple 0 t l its.toArray n dd sl) ⟨ho, rfl, ⟨_, ho, rfl⟩, call_meets F.slot_tuple_mul ⟨_, ho, rfl⟩ F.entry_tuple_mul (F.args_tuple_mul_2 _ _) (mul_zero l its.toArray n dd sl t some_) ⟨ho, ?_⟩⟩)
    exact ⟨.ref s.heap.objs.size, _, I.laid (t' := s.toks) (o := .tup []) (fun b ob y => Heap.get?_push_of_some _ y) (Nat.le_refl _) ⟨Nat.zero_le _, [], .nil, PyProof.Rows.IsTup.new _ _⟩, rfl, q _ _ (same_new (I.hok.fresh (Nat.le_refl _))) upd_same⟩
  · refine wpAny_binaryOp_repeat_ref (T := "tuple") (U := "int") (by decide) ⟨_, ho, rfl⟩ (fun s' => typeIs_int s' 1 t) noFill_tuple_mul F.fills_int_mul F.slot_int_rmul repeat_tuple F.slot_int_index.lookup
      (call_meets F.slot_int_rmul (typeIs_int s 1 t) F.entry_int_rmul (F.args_int_rmul_2 _ _) (int_rmul_tuple 1 t l its.toArray n dd sl) ⟨ho, rfl, ⟨_, ho, rfl⟩, call_meets F.slot_tuple_mul ⟨_, ho, rfl⟩ F.entry_tuple_mul (F.args_tuple_mul_2 _ _) (mul_one l its.toArray n dd sl t) ⟨ho, ?_⟩⟩)
    refine ⟨.ref l, H, I, rfl, q l H (Same.refl H) ?_⟩
    rw [hT]
    show some (HO.tup xs) = some (HO.tup (List.replicate 1 xs).flatten)
    simp
end Af

set_option Elab.async false
set_option linter.all false
set_option maxRecDepth 100000
namespace Af
open PySem PySem.Spec PyProof.Rows L2
/-! data whose text is not long -/
/-- its text has at most b signs, it can be shown, it nests at most n deep -/
structure Bd (b n : Nat) (d : PyData) : Prop where
  tx : d.shown.length ≤ b
  sh : d.showable = true
  dp : d.depth ≤ n
theorem Bd.mono {b n b' n' : Nat} {d : PyData} (h : Bd b n d) (h1 : b ≤ b') (h2 : n ≤ n') : Bd b' n' d := ⟨Nat.le_trans h.tx h1, h.sh, Nat.le_trans h.dp h2⟩
theorem Bd.flat {d : PyData} (h : flatD d = true) : Bd 45 1 d := by
  obtain ⟨h1, h2, h3⟩ := flat_len h
  exact ⟨h1, h2, h3⟩
theorem Bd.lst {b n k : Nat} {ds : List PyData} (h : ∀ d ∈ ds, Bd b n d) (hl : ds.length ≤ k) : Bd (k * (b + 2) + 3) (n + 1) (.list ds) := by
  obtain ⟨t, _⟩ := texts_le fun d hd => (h d hd).tx
  have e : ds.length * (b + 2) ≤ k * (b + 2) := Nat.mul_le_mul_right _ hl
  have e2 : ds.length * (b + 2) = b * ds.length + 2 * ds.length := by rw [Nat.mul_add, Nat.mul_comm ds.length b, Nat.mul_comm ds.length 2]
  refine ⟨?_, ?_, ?_⟩
  · simp only [PyData.shown]
    omega
  · simp only [PyData.showable]
    exact showAll_of fun d hd => (h d hd).sh
  · simp only [PyData.depth]
    have := depthAll_of fun d hd => (h d hd).dp
    omega
theorem Bd.tup {b n k : Nat} {ds : List PyData} (h : ∀ d ∈ ds, Bd b n d) (hl : ds.length ≤ k) : Bd (k * (b + 2) + 3) (n + 1) (.tuple ds) := by
  obtain ⟨_, t⟩ := texts_le fun d hd => (h d hd).tx
  have e : ds.length * (b + 2) ≤ k * (b + 2) := Nat.mul_le_mul_right _ hl
  have e2 : ds.length * (b + 2) = b * ds.length + 2 * ds.length := by rw [Nat.mul_add, Nat.mul_comm ds.length b, Nat.mul_comm ds.length 2]
  refine ⟨?_, ?_, ?_⟩
  · simp only [PyData.shown]
    omega
  · simp only [PyData.showable]
    exact showAll_of fun d hd => (h d hd).sh
  · simp only [PyData.depth]
    have := depthAll_of fun d hd => (h d hd).dp
    omega
theorem mem_shown {ds : List PyData} {d : PyData} (h : d ∈ ds) : d.shown ∈ PyData.shownAll ds := by
  induction ds with
  | nil => simp at h
  | cons a r ih =>
    simp only [PyData.shownAll]
    rcases List.mem_cons.mp h with rfl | h
    · exact List.mem_cons_self
    · exact List.mem_cons_of_mem _ (ih h)
theorem piled_ge : ∀ ts : List Str, 2 * ts.length ≤ piled ts
  | [] => Nat.zero_le _
  | t :: ts => by
    have := piled_ge ts
    simp only [piled, List.map_cons, List.sum_cons, List.length_cons] at *
    omega
theorem th_text {K : PySem.W.Frag} {H : Hp} : ∀ {n : Nat} {x : V} {d : PyData}, Dq K H x d → d.shown.length ≤ 200000 → Th K H n x
  | 0, _, _, h, _ => dq_ty h
  | n + 1, x, d, h, sz => by
    refine ⟨dq_ty h, fun a xs e z => ?_⟩
    subst e
    have key : ∀ ds, DqAll K H xs ds → (∀ y ∈ ds, y.shown.length ≤ 200000) → 2 * ds.length ≤ 200000 → xs.length ≤ 100000 ∧ ∀ y ∈ xs, Th K H n y := fun ds t q l => by
      refine ⟨by rw [t.len]; omega, fun y hy => ?_⟩
      obtain ⟨d', m1, m2⟩ := t.mem hy
      exact th_text m2 (q d' m1)
    cases h with
    | @lst _ ys ds e t =>
      have p := piled_le_listText (PyData.shownAll ds)
      have g := piled_ge (PyData.shownAll ds)
      rw [shownAll_len] at g
      simp only [PyData.shown] at sz
      rcases z with z | z
      · rw [e] at z; cases z
      · rw [e] at z; cases z; exact key ds t (fun y hy => Nat.le_trans (listText_mem_le (mem_shown hy)) sz) (by omega)
    | @tup _ ys ds e t =>
      have p := piled_le_tupleText (PyData.shownAll ds)
      have g := piled_ge (PyData.shownAll ds)
      rw [shownAll_len] at g
      simp only [PyData.shown] at sz
      rcases z with z | z
      · rw [e] at z; cases z; exact key ds t (fun y hy => Nat.le_trans (tupleText_mem_le (mem_shown hy)) sz) (by omega)
      · rw [e] at z; cases z
    | dic e => rcases z with z | z <;> (rw [e] at z; cases z)
def few : PyData → Prop
  | .list l => l.length ≤ 100
  | _ => True
end Af

set_option Elab.async false
set_option linter.all false
set_option maxRecDepth 100000
namespace Af
open PySem PySem.Spec PyProof.Rows L2
/-! a heap without the lists that are changed -/
def hd (p : Addr) (H : Hp) : Hp := fun a => if a = p then none else H a
theorem hd_ne {p a : Addr} {H : Hp} (h : a ≠ p) : hd p H a = H a := if_neg h
theorem hd_in {p : Addr} {H : Hp} : Same (hd p H) H := fun a o e => by
  by_cases h : a = p
  · rw [h] at e
    rw [show hd p H p = none from if_pos rfl] at e
    cases e
  · rw [hd_ne h] at e
    exact e
theorem hd_same {p : Addr} {H H' : Hp} (s : Same H H') : Same (hd p H) (hd p H') := fun a o e => by
  by_cases h : a = p
  · rw [h] at e
    rw [show hd p H p = none from if_pos rfl] at e
    cases e
  · rw [hd_ne h] at e ⊢
    exact s a o e
theorem hd_kp {p : Addr} {H H' : Hp} (k : Kp p H H') : Same (hd p H) (hd p H') := fun a o e => by
  by_cases h : a = p
  · rw [h] at e
    rw [show hd p H p = none from if_pos rfl] at e
    cases e
  · rw [hd_ne h] at e ⊢
    exact k a o (.inl h) e
theorem hd_upd {p : Addr} {H : Hp} {o : HO} : hd p (upd H p o) = hd p H := funext fun a => by
  by_cases h : a = p
  · rw [h]
    exact (if_pos rfl).trans (if_pos rfl).symm
  · rw [hd_ne h, hd_ne h, upd_ne h]
theorem hd_comm {p l : Addr} {H : Hp} : hd l (hd p H) = hd p (hd l H) := funext fun a => by
  by_cases h : a = p
  · by_cases g : a = l
    · rw [show hd l (hd p H) a = none from if_pos g, show hd p (hd l H) a = none from if_pos h]
    · rw [hd_ne g, show hd p H a = none from if_pos h, show hd p (hd l H) a = none from if_pos h]
  · by_cases g : a = l
    · rw [show hd l (hd p H) a = none from if_pos g, hd_ne h, show hd l H a = none from if_pos g]
    · rw [hd_ne g, hd_ne h, hd_ne h, hd_ne g]
theorem kp_hd {p : Addr} {H : Hp} {ys : List V} (e : H p = some (.lst ys)) : Kp p H (hd p H) := fun a o n k => by
  by_cases h : a = p
  · rcases n with n | n
    · exact absurd h n
    · rw [h, e] at k
      exact absurd (Option.some.inj k).symm (n ys)
  · rw [hd_ne h]
    exact k
/-- what is new is hidden: all else stands -/
theorem same_hd {p : Addr} {H H' : Hp} (n : H p = none) (s : Same H H') : Same H (hd p H') := fun a o e => by
  rw [hd_ne (fun h => by rw [h, n] at e; cases e)]
  exact s a o e
/-- the heap G with both hidden -/
abbrev hd2 (p l : Addr) (H : Hp) : Hp := hd l (hd p H)
theorem hd2_at {p l a : Addr} {H : Hp} {o : HO} (e : H a = some o) (h1 : a ≠ p) (h2 : a ≠ l) : hd2 p l H a = some o := by
  show hd l (hd p H) a = some o
  rw [hd_ne h2, hd_ne h1]
  exact e
theorem hd2_same {p l : Addr} {H H' : Hp} (s : Same H H') : Same (hd2 p l H) (hd2 p l H') := hd_same (hd_same s)
theorem hd2_kp {p l : Addr} {H H' : Hp} (k : Kp p H H') : Same (hd2 p l H) (hd2 p l H') := hd_same (hd_kp k)
theorem hd2_upd {p l : Addr} {H : Hp} {o : HO} : hd2 p l (upd H l o) = hd2 p l H := by
  show hd l (hd p (upd H l o)) = hd l (hd p H)
  rw [hd_comm, hd_upd, hd_comm]
theorem hd2_in {p l : Addr} {H : Hp} : Same (hd2 p l H) H := fun a o e => hd_in a o (hd_in a o e)
section
variable {K : PySem.W.Frag}
theorem dq_stepV {H : Hp} {x : V} {st : Stp} (h : StepV H x st) : Dq K H x (stepD st) := by
  cases st with
  | none =>
    have e : x = V.non := h
    subst e
    exact .non
  | some fw =>
    obtain ⟨f, ws⟩ := fw
    obtain ⟨a, b, rfl, h1, h2⟩ := h
    refine .tup h1 (.cons (.int f) (.cons (.tup h2 ?_) .nil))
    clear h2
    induction ws with
    | nil => exact .nil
    | cons n ns ih => exact .cons (.int n) ih
theorem dq_ints {H : Hp} : ∀ ns : List Int, DqAll K H (ivs ns) (dvs ns)
  | [] => .nil
  | n :: ns => .cons (.int n) (dq_ints ns)
theorem dq_stepsV {H : Hp} : ∀ {xs : List V} {sts : List Stp}, Paired (StepV H) xs sts → DqAll K H xs (stepsD sts)
  | _, _, .nil => .nil
  | _, _, .cons h t => .cons (dq_stepV h) (dq_stepsV t)
theorem DqAll.app {H : Hp} : ∀ {xs ys : List V} {ds es : List PyData}, DqAll K H xs ds → DqAll K H ys es → DqAll K H (xs ++ ys) (ds ++ es)
  | _, _, _, _, .nil, h => h
  | _, _, _, _, .cons r t, h => .cons r (t.app h)
theorem DqAll.take {H : Hp} : ∀ {xs : List V} {ds : List PyData} (n : Nat), DqAll K H xs ds → DqAll K H (xs.take n) (ds.take n)
  | _, _, 0, _ => by
    rw [List.take_zero, List.take_zero]
    exact .nil
  | _, _, n + 1, .nil => .nil
  | _, _, n + 1, .cons r t => .cons r (t.take n)
theorem DqAll.drop {H : Hp} : ∀ {xs : List V} {ds : List PyData} (n : Nat), DqAll K H xs ds → DqAll K H (xs.drop n) (ds.drop n)
  | _, _, 0, h => h
  | _, _, n + 1, .nil => .nil
  | _, _, n + 1, .cons r t => t.drop n
theorem DqAll.rep {H : Hp} {x : V} {d : PyData} (h : Dq K H x d) : ∀ n : Nat, DqAll K H (List.replicate n [x]).flatten (List.replicate n d)
  | 0 => .nil
  | n + 1 => .cons h (DqAll.rep h n)
/-- a thing, told by data that is not long -/
def Tg (K : PySem.W.Frag) (G : Hp) (b n : Nat) (P : PyData → Prop) (x : V) : Prop := ∃ d, Dq K G x d ∧ Bd b n d ∧ P d
theorem Tg.same {G G' : Hp} {b n : Nat} {P : PyData → Prop} {x : V} (h : Tg K G b n P x) (s : Same G G') : Tg K G' b n P x := by
  obtain ⟨d, h1, h2, h3⟩ := h
  exact ⟨d, Dq.same s d x h1, h2, h3⟩
end
end Af

set_option Elab.async false
set_option linter.all false
set_option maxRecDepth 100000
namespace Af
open PySem PySem.Spec PyProof.Rows L2
theorem same_hd2 {p D : Addr} {H H' : Hp} (n : H D = none) (s : Same H H') : Same (hd p H) (hd2 p D H') := fun a o e => by
  have ap : a ≠ p := fun h => by
    rw [h, show hd p H p = none from if_pos rfl] at e
    cases e
  rw [hd_ne ap] at e
  exact hd2_at (s a o e) ap (fun h => by rw [h, n] at e; cases e)
theorem hd2_to {p l l' : Addr} {H H' : Hp} (n : H l' = none) (s : Same H H') : Same (hd2 p l H) (hd2 p l' H') := fun a o e => by
  have e1 := hd2_in a o e
  have ap : a ≠ p := fun h => by
    have e2 := hd_in a o e
    rw [h, show hd p H p = none from if_pos rfl] at e2
    cases e2
  exact hd2_at (s a o e1) ap (fun h => by rw [h, n] at e1; cases e1)
theorem len_stepsD : ∀ l : List Stp, (stepsD l).length = l.length
  | [] => rfl
  | a :: r => by
    show (stepsD r).length + 1 = r.length + 1
    rw [len_stepsD r]
theorem flat_small {z : Int} (h : 0 ≤ z ∧ z < 8) : flatD (.int z) = true := by
  have k : ∀ n : Fin 8, flatD (.int ((n.val : Nat) : Int)) = true := by decide +kernel
  obtain ⟨n, rfl⟩ := Int.eq_ofNat_of_zero_le h.1
  exact k ⟨n, by omega⟩
theorem flat_place {z : Int} (h : 0 ≤ z ∧ z ≤ 64) : flatD (.int z) = true := by
  have k : ∀ n : Fin 65, flatD (.int ((n.val : Nat) : Int)) = true := by decide +kernel
  obtain ⟨n, rfl⟩ := Int.eq_ofNat_of_zero_le h.1
  exact k ⟨n, by omega⟩
theorem dvs_mem {ns : List Int} {d : PyData} (h : d ∈ dvs ns) : ∃ z ∈ ns, d = .int z := by
  obtain ⟨z, hz, e⟩ := List.mem_map.mp h
  exact ⟨z, hz, e.symm⟩
theorem bd_cells {ns : List Int} (hl : ns.length ≤ 25) (h : ∀ z ∈ ns, 0 ≤ z ∧ z < 8) : Bd 1200 2 (.tuple (dvs ns)) := by
  refine (Bd.tup (b := 45) (n := 1) (k := 25) (fun d hd => ?_) (by rw [show (dvs ns).length = ns.length from List.length_map ..]; exact hl)).mono (by decide) (by decide)
  obtain ⟨z, hz, rfl⟩ := dvs_mem hd
  exact Bd.flat (flat_small (h z hz))
theorem bd_step {n : Nat} {st : Stp} (o : OkS n st) (hn : n ≤ 24) : Bd 2500 3 (stepD st) := by
  cases st with
  | none => exact (Bd.flat rfl).mono (by decide) (by decide)
  | some fw =>
    obtain ⟨f, ws⟩ := fw
    obtain ⟨o1, o2, o3, o4⟩ := o
    refine (Bd.tup (b := 1200) (n := 2) (k := 2) (ds := [.int f, .tuple (dvs ws)]) (fun d hd => ?_) (Nat.le_refl 2)).mono (by decide) (by decide)
    simp only [List.mem_cons, List.not_mem_nil, or_false] at hd
    rcases hd with rfl | rfl
    · exact (Bd.flat (flat_place ⟨o1, by omega⟩)).mono (by decide) (by decide)
    · exact bd_cells (by omega) o4
theorem stepsD_mem {n : Nat} : ∀ {l : List Stp} {d : PyData}, (∀ x ∈ l, OkS n x) → d ∈ stepsD l → ∃ st ∈ l, d = stepD st
  | [], d, _, h => by cases h
  | a :: r, d, o, h => by
    rcases List.mem_cons.mp h with rfl | h
    · exact ⟨a, List.mem_cons_self, rfl⟩
    · obtain ⟨st, h1, h2⟩ := stepsD_mem (fun x hx => o x (List.mem_cons_of_mem _ hx)) h
      exact ⟨st, List.mem_cons_of_mem _ h1, h2⟩
theorem bd_steps {n : Nat} {l : List Stp} (o : ∀ x ∈ l, OkS n x) (hn : n ≤ 24) : ∀ d ∈ stepsD l, Bd 4000 6 d := fun d hd => by
  obtain ⟨st, h1, rfl⟩ := stepsD_mem o hd
  exact (bd_step (o st h1) hn).mono (by decide) (by decide)
/-- a triple that is no plan's -/
def BadT (K : PySem.W.Frag) (good : PyData → PyData → PyData → Bool) (G : Hp) (u : V) : Prop := ∃ t b w s db dw ds, u = .ref t ∧ G t = some (.tup [b, w, s]) ∧ Dq K G b db ∧ Dq K G w dw ∧ Dq K G s ds ∧ Bd 190000 20 db ∧ Bd 190000 20 dw ∧ Bd 190000 20 ds ∧ few ds ∧ good db dw ds = false
theorem BadT.same {K : PySem.W.Frag} {good : PyData → PyData → PyData → Bool} {G G' : Hp} {u : V} (h : BadT K good G u) (s : Same G G') : BadT K good G' u := by
  obtain ⟨t, b, w, v, db, dw, ds, e, h1, h2, h3, h4, r⟩ := h
  exact ⟨t, b, w, v, db, dw, ds, e, s _ _ h1, Dq.same s _ _ h2, Dq.same s _ _ h3, Dq.same s _ _ h4, r⟩
/-- a triple that was just laid -/
theorem bad_mk {K : PySem.W.Frag} {good : PyData → PyData → PyData → Bool} {p l t : Addr} {H : Hp} {b w v : V} {db dw ds : PyData} {ys zs : List V} (hp : H p = some (.lst ys)) (hl : H l = some (.lst zs)) (ht : H t = some (.tup [b, w, v])) (h2 : Dq K (hd2 p l H) b db) (h3 : Dq K (hd2 p l H) w dw) (h4 : Dq K (hd2 p l H) v ds)
    (b1 : Bd 190000 20 db) (b2 : Bd 190000 20 dw) (b3 : Bd 190000 20 ds) (f : few ds) (bad : good db dw ds = false) : BadT K good (hd2 p l H) (.ref t) :=
  ⟨t, b, w, v, db, dw, ds, rfl, hd2_at ht (ne_of ht hp (by intro q; cases q)) (ne_of ht hl (by intro q; cases q)), h2, h3, h4, b1, b2, b3, f, bad⟩
end Af

set_option Elab.async false
set_option linter.all false
set_option maxRecDepth 100000
namespace Af
open PySem PySem.Spec PyProof.Rows L2
/-! repr of data of any kind -/
def rReprA (K : PySem.W.Frag) : List V → Hp → VK → Prop := fun xs H Q => ∃ (x : V) (d : PyData), xs = [x] ∧ Dq K H x d ∧ d.showable = true ∧ d.depth ≤ 60 ∧ d.shown.length ≤ sizeLine ∧ Q (.str d.shown) H
theorem call_reprA {X : Cx} (hg : X.A.guards = some []) (hu : X.A.units + 64 < cLine) : CallR X (.builtin "repr") (rReprA X.K) := by
  intro pins s σ H xs us Q I r h
  obtain ⟨x, d, rfl, hd, sh, dp, sz, q⟩ := h
  have hd0 := hd
  cases hd with
  | int i =>
    obtain ⟨u, rfl, ru⟩ := vals1 r
    obtain ⟨t, rfl⟩ := ru
    have lg : i.natAbs.log2 < 1920 := of_decide_eq_true (show decide (i.natAbs.log2 < 1920) = true from by simpa only [PyData.showable] using sh)
    refine PySem.P.repr_of_int lg ⟨.str _, H, I.tok _, ⟨_, rfl⟩, ?_⟩
    simpa only [PyData.shown] using q
  | non =>
    obtain ⟨u, rfl, ru⟩ := vals1 r
    cases (show u = Value.none from ru)
    refine PySem.P.repr_of_none ⟨.str _, H, I.tok _, ⟨_, rfl⟩, ?_⟩
    simpa only [PyData.shown] using q
  | bl b =>
    obtain ⟨u, rfl, ru⟩ := vals1 r
    cases (show u = Value.bool b from ru)
    refine PySem.P.repr_of_bool ⟨.str (PyData.bool b).shown, H, I.tok _, ⟨s.toks, ?_⟩, q⟩
    cases b <;> simp only [PyData.shown] <;> rfl
  | str z =>
    obtain ⟨u, rfl, ru⟩ := vals1 r
    obtain ⟨t, rfl⟩ := ru
    refine PySem.P.repr_of_str ⟨.str (PyData.str z).shown, H, I.tok _, ⟨s.toks, ?_⟩, q⟩ ?_
    · simp only [PyData.shown]
    simpa only [PyData.shown] using sz
  | @lst a xs ds e t =>
    have dp' : PyData.depthAll ds + 1 ≤ 60 := by simpa only [PyData.depth] using dp
    exact call_reprL hg hu pins s σ H _ us Q I r ⟨a, xs, ds, rfl, e, t, by simpa only [PyData.showable] using sh, by omega, sz, q⟩
  | @tup a xs ds e t =>
    have dp' : PyData.depthAll ds + 1 ≤ 60 := by simpa only [PyData.depth] using dp
    exact call_repr' hg hu pins s σ H _ us Q I r ⟨a, xs, ds, rfl, e, t, by simpa only [PyData.showable] using sh, by omega, sz, q⟩
  | @dic a ha =>
    obtain ⟨u, rfl, ru⟩ := vals1 r
    cases (show u = Value.ref a from ru)
    obtain ⟨_, hne, vs, rv, o, es, ep, h1, h2, h3, _, h4, _⟩ := dk_of I.hok ha
    cases rv
    have e : es.toList = [] := by
      cases q : es.toList with
      | nil => rfl
      | cons y l =>
        rw [q] at h4
        cases h4
    have rd : Reads s.heap (.ref a) (.dict []) ([a] ++ []) := Reads.dict (kvs := []) (as := []) (bs := []) h1 h2.1 h3 (by rw [e]; exact .nil) (by rw [e]; exact .nil)
    refine repr_of_reads' (h₀ := s.heap) rd sh (fun _ z => ?_) hg (by omega) (fun _ _ y => y) (fun h' u tk keep => ⟨.str (PyData.dict []).shown, H, I.kept keep, ⟨u, rfl⟩, q⟩) sz
    have z' : sysModules ∈ [a] := z
    rw [← List.mem_singleton.mp z'] at hne
    exact absurd hne (by simp)
end Af

set_option Elab.async false
set_option linter.all false
set_option maxRecDepth 100000
set_option maxHeartbeats 4000000
namespace Af
open PySem L2
/-- x is a plan of the program's with these parts -/
structure PlanI (p C : Addr) (H : Hp) (x : V) (pl : Pl) : Prop where
  ex : ∃ (a dx ca sl : Addr) (fs : List (Str × V)) (xs : List V), x = .ref a ∧ H a = some (.ins C dx fs) ∧ fs.lookup ("_base" : Str) = some (.ref ca) ∧ fs.lookup ("_width" : Str) = some (.int pl.w) ∧ fs.lookup ("_steps" : Str) = some (.ref sl) ∧
    H ca = some (.tup (ivs pl.cs)) ∧ sl ≠ p ∧ H sl = some (.lst xs) ∧ Paired (StepV H) xs pl.sts
theorem PlanI.kp {p C : Addr} {H H' : Hp} {x : V} {pl : Pl} (k : Kp p H H') (h : PlanI p C H x pl) : PlanI p C H' x pl := by
  obtain ⟨a, dx, ca, sl, fs, xs, e, h1, l1, l2, l3, h2, n, h3, h4⟩ := h.ex
  exact ⟨a, dx, ca, sl, fs, xs, e, k.ins h1, l1, l2, l3, k.tup h2, n, k.lst n h3, steps_kp k h4⟩
def sp_eq (K : PySem.W.Frag) (C : Addr) : Sp := fun vs H Q _ => ∃ (p : Addr) (x y : V) (pl : Pl), vs = [x, y] ∧ PlanI p C H x pl ∧ ((∃ pl', PlanI p C H y pl' ∧ Q (.bl (samePl pl pl')) H) ∨ ∃ n, Ty K H y n ∧ Q (.bl false) H)

/-- a plan that was made, whole -/
structure PlanF (C : Addr) (H : Hp) (x : V) (pl : Pl) (sl ql el : Addr) : Prop where
  ex : ∃ a ca xs ys, x = .ref a ∧ PlanX C a ca sl ql el H pl xs ys ∧ H ca = some (.tup (ivs pl.cs)) ∧ Paired (StepV H) xs pl.sts ∧ Paired (PieceA H) ys (allP pl.w 0 pl.sts)
  ok : OkP pl
structure PlanW (p C : Addr) (H : Hp) (x : V) (pl : Pl) : Prop where
  ex : ∃ sl ql el, PlanF C H x pl sl ql el ∧ sl ≠ p ∧ ql ≠ p ∧ el ≠ p
structure PlanN (C : Addr) (H0 H : Hp) (x : V) (pl : Pl) : Prop where
  ex : ∃ sl ql el, PlanF C H x pl sl ql el ∧ H0 sl = none ∧ H0 ql = none ∧ H0 el = none
theorem PlanF.kp {p C sl ql el : Addr} {H H' : Hp} {x : V} {pl : Pl} (h : PlanF C H x pl sl ql el) (k : Kp p H H') (n1 : sl ≠ p) (n2 : ql ≠ p) (n3 : el ≠ p) : PlanF C H' x pl sl ql el := by
  obtain ⟨a, ca, xs, ys, e, ⟨⟨dx, fs, h1, h2⟩, h3, h4, h5⟩, h6, h7, h8⟩ := h.ex
  exact ⟨⟨a, ca, xs, ys, e, ⟨⟨dx, fs, k.ins h1, h2⟩, k.lst n1 h3, k.lst n2 h4, k.lst n3 h5⟩, k.tup h6, steps_kp k h7, pieceA_kp k h8⟩, h.ok⟩
theorem PlanF.same {C sl ql el : Addr} {H H' : Hp} {x : V} {pl : Pl} (h : PlanF C H x pl sl ql el) (s : Same H H') : PlanF C H' x pl sl ql el := by
  obtain ⟨a, ca, xs, ys, e, ⟨⟨dx, fs, h1, h2⟩, h3, h4, h5⟩, h6, h7, h8⟩ := h.ex
  exact ⟨⟨a, ca, xs, ys, e, ⟨⟨dx, fs, s _ _ h1, h2⟩, s _ _ h3, s _ _ h4, s _ _ h5⟩, s _ _ h6, steps_same s h7, pieceA_st s h8⟩, h.ok⟩
theorem PlanW.kp {p C : Addr} {H H' : Hp} {x : V} {pl : Pl} (h : PlanW p C H x pl) (k : Kp p H H') : PlanW p C H' x pl := by
  obtain ⟨sl, ql, el, f, n1, n2, n3⟩ := h.ex
  exact ⟨sl, ql, el, f.kp k n1 n2 n3, n1, n2, n3⟩
theorem PlanW.same {p C : Addr} {H H' : Hp} {x : V} {pl : Pl} (h : PlanW p C H x pl) (s : Same H H') : PlanW p C H' x pl := h.kp (Kp.same s)
theorem PlanN.w {p C : Addr} {H0 H : Hp} {x : V} {pl : Pl} {o : HO} (h : PlanN C H0 H x pl) (e : H0 p = some o) : PlanW p C H x pl := by
  obtain ⟨sl, ql, el, f, n1, n2, n3⟩ := h.ex
  exact ⟨sl, ql, el, f, nofree e n1 |>.symm |> fun z => z.symm, nofree e n2, nofree e n3⟩
theorem PlanW.i {p C : Addr} {H : Hp} {x : V} {pl : Pl} (h : PlanW p C H x pl) : PlanI p C H x pl := by
  obtain ⟨sl, ql, el, f, n1, n2, n3⟩ := h.ex
  obtain ⟨a, ca, xs, ys, e, ⟨⟨dx, fs, h1, h2, h2', h2'', _⟩, h3, h4, h5⟩, h6, h7, h8⟩ := f.ex
  exact ⟨a, dx, ca, sl, fs, xs, e, h1, h2, h2', h2'', h6, n1, h3, h7⟩
theorem PlanW.ok {p C : Addr} {H : Hp} {x : V} {pl : Pl} (h : PlanW p C H x pl) : OkP pl := by
  obtain ⟨_, _, _, f, _⟩ := h.ex
  exact f.ok
/-- the classes' facts of the five properties -/
structure PropC (P : Program) (w : World) (K : PySem.W.Frag) (mg : Str → Option Value) (base : Heap) (C : Addr) (f : Str) (sp : Sp) : Prop where
  ex : ∃ p g fd, PropOf K C f p g ∧ FnOk P w K mg base CX0 1 g fd ["self"] sp ∧ Binds K fd ["self"] []
theorem pe_propC {X : Cx} {C : Addr} {f : Str} {sp : Sp} {e : Expr} {pos : Pos} {ta : TE} {j : Nat} (c : Cls X.K C) (h : PropC X.prog X.w X.K X.mg X.base C f sp) (hr : Room j X.A) (he : PE X e ta) (hj : 2 ≤ j := by decide) (hab : attributeBase e f X.env (eval e X.env) = eval e X.env := by rfl) :
    PE X (.Attribute e f pos) (tProp C sp [] E0 ta) := by
  obtain ⟨p, g, fd, hp, F, b⟩ := h.ex
  exact pe_prop he c hp F (hr.mono hj) b .nil pass0 hab
def sp_plan_of (C : Addr) : Sp := fun vs H Q _ => ∃ (p : Addr) (v : V) (pl : Pl), vs = [v] ∧ PlanV p H v pl ∧ OkP pl ∧ ∀ y H', Same H H' → PlanN C H H' y pl → Q y H'

theorem made_outW {K : PySem.W.Frag} {C : Addr} {wd : Int} {pl : Pl} {H G : Hp} {Q : VK} {E : XK} {x dx ca sa : Addr} {xs : List V} (hw : wd = pl.w) (hx : H x = none) (s0 : Same H G) (gx : G x = some (.ins C dx [])) (h1 : G ca = some (.tup (ivs pl.cs))) (h2 : G sa = some (.lst xs)) (h3 : Paired (StepV G) xs pl.sts) (okp : OkP pl)
    (k : ∀ H', Same H H' → PlanN C H H' (.ref x) pl → Q .non H') : sp_initX C [.ref x, .ref ca, .int wd, .ref sa] G Q E := by
  subst hw
  refine ⟨x, dx, ca, sa, pl, xs, rfl, gx, h1, h2, h3, okp, fun H' sl ql el fs ys ko nsl nql nel hx' l1 l2 l3 l4 l5 l6 l7 hsl hql hys hel => ?_⟩
  have s1 : Same H H' := fun b u e => ko b u (ne_of_none e hx) (s0 b u e)
  have nf : ∀ {c}, G c = none → H c = none := fun {c} e => s0.free e
  have kg : ∀ {c : Addr} {l : List V}, G c = some (.tup l) → H' c = some (.tup l) := fun {c l} e => ko c _ (ne_of e gx (by intro q; cases q)) e
  have st' : Paired (StepV H') xs pl.sts := L2.Paired.mapP h3 fun v st z => by
    cases st with
    | none => exact z
    | some fw =>
      obtain ⟨f, ws⟩ := fw
      obtain ⟨a, b, e, z1, z2⟩ := z
      exact ⟨a, b, e, kg z1, kg z2⟩
  exact k H' s1 ⟨sl, ql, el, ⟨⟨x, ca, xs, ys, rfl, ⟨⟨dx, fs, hx', l1, l2, l3, l4, l5, l6, l7⟩, hsl, hql, hel⟩, kg h1, st', hys⟩, okp⟩, nf nsl, nf nql, nf nel⟩
section
variable {P : Program} {w : World} {K : PySem.W.Frag} {mg : Str → Option Value} {base : Heap}
end
end Af

set_option Elab.async false
set_option linter.all false
set_option maxRecDepth 100000
set_option maxHeartbeats 4000000
namespace Af
open PySem PySem.Spec PyProof.Rows L2
/-! data with dicts within, their keys ints and texts; its repr -/
def keyD : L2.Key → PyData
  | .inl i => .int i
  | .inr x => .str x
mutual
inductive Dx (K : PySem.W.Frag) (H : Hp) : V → PyData → Prop
  | non : Dx K H .non .none
  | bl (b : Bool) : Dx K H (.bl b) (.bool b)
  | int (i : Int) : Dx K H (.int i) (.int i)
  | str (x : Str) : Dx K H (.str x) (.str x)
  | lst {a : Addr} {xs : List V} {ds : List PyData} : H a = some (.lst xs) → DxAll K H xs ds → Dx K H (.ref a) (.list ds)
  | tup {a : Addr} {xs : List V} {ds : List PyData} : H a = some (.tup xs) → DxAll K H xs ds → Dx K H (.ref a) (.tuple ds)
  | dic {a : Addr} {rows : List (L2.Key × V)} {kvs : List (PyData × PyData)} : H a = some (.dK rows) → DxKv K H rows kvs → Dx K H (.ref a) (.dict kvs)
inductive DxAll (K : PySem.W.Frag) (H : Hp) : List V → List PyData → Prop
  | nil : DxAll K H [] []
  | cons {v : V} {vs : List V} {d : PyData} {ds : List PyData} : Dx K H v d → DxAll K H vs ds → DxAll K H (v :: vs) (d :: ds)
inductive DxKv (K : PySem.W.Frag) (H : Hp) : List (L2.Key × V) → List (PyData × PyData) → Prop
  | nil : DxKv K H [] []
  | cons {k : L2.Key} {v : V} {rows : List (L2.Key × V)} {d : PyData} {kvs : List (PyData × PyData)} : Dx K H v d → DxKv K H rows kvs → DxKv K H ((k, v) :: rows) ((keyD k, d) :: kvs)
end
mutual
theorem Dx.of {K : PySem.W.Frag} {H : Hp} : ∀ {v : V} {d : PyData}, Dq K H v d → Dx K H v d
  | _, _, .non => .non
  | _, _, .bl b => .bl b
  | _, _, .int i => .int i
  | _, _, .str x => .str x
  | _, _, .lst e t => .lst e (DxAll.of t)
  | _, _, .tup e t => .tup e (DxAll.of t)
  | _, _, .dic e => .dic e .nil
theorem DxAll.of {K : PySem.W.Frag} {H : Hp} : ∀ {v : List V} {d : List PyData}, DqAll K H v d → DxAll K H v d
  | _, _, .nil => .nil
  | _, _, .cons h t => .cons (Dx.of h) (DxAll.of t)
end
mutual
theorem Dx.same {K : PySem.W.Frag} {H H' : Hp} (s : Same H H') : ∀ {v : V} {d : PyData}, Dx K H v d → Dx K H' v d
  | _, _, .non => .non
  | _, _, .bl b => .bl b
  | _, _, .int i => .int i
  | _, _, .str x => .str x
  | _, _, .lst e t => .lst (s _ _ e) (DxAll.same s t)
  | _, _, .tup e t => .tup (s _ _ e) (DxAll.same s t)
  | _, _, .dic e t => .dic (s _ _ e) (DxKv.same s t)
theorem DxAll.same {K : PySem.W.Frag} {H H' : Hp} (s : Same H H') : ∀ {v : List V} {d : List PyData}, DxAll K H v d → DxAll K H' v d
  | _, _, .nil => .nil
  | _, _, .cons h t => .cons (Dx.same s h) (DxAll.same s t)
theorem DxKv.same {K : PySem.W.Frag} {H H' : Hp} (s : Same H H') : ∀ {v : List (L2.Key × V)} {d : List (PyData × PyData)}, DxKv K H v d → DxKv K H' v d
  | _, _, .nil => .nil
  | _, _, .cons h t => .cons (Dx.same s h) (DxKv.same s t)
end
theorem DxAll.len {K : PySem.W.Frag} {H : Hp} : ∀ {v : List V} {d : List PyData}, DxAll K H v d → v.length = d.length
  | _, _, .nil => rfl
  | _, _, .cons _ t => by rw [List.length_cons, List.length_cons, t.len]
theorem DxKv.len {K : PySem.W.Frag} {H : Hp} : ∀ {v : List (L2.Key × V)} {d : List (PyData × PyData)}, DxKv K H v d → v.length = d.length
  | _, _, .nil => rfl
  | _, _, .cons _ t => by rw [List.length_cons, List.length_cons, t.len]
theorem DxAll.at {K : PySem.W.Frag} {H : Hp} : ∀ {xs : List V} {ds : List PyData}, DxAll K H xs ds → ∀ {i : Nat} {y : V}, xs[i]? = some y → ∃ d, ds[i]? = some d ∧ Dx K H y d
  | _, _, .nil, i, y, h => by simp at h
  | _, _, .cons r t, 0, y, h => by cases h; exact ⟨_, rfl, r⟩
  | _, _, .cons r t, i + 1, y, h => t.at (i := i) h
theorem DxAll.app {K : PySem.W.Frag} {H : Hp} : ∀ {xs ys : List V} {ds es : List PyData}, DxAll K H xs ds → DxAll K H ys es → DxAll K H (xs ++ ys) (ds ++ es)
  | _, _, _, _, .nil, h => h
  | _, _, _, _, .cons r t, h => .cons r (t.app h)
theorem depthKv_key (k : L2.Key) (d : PyData) (r : List (PyData × PyData)) : PyData.depthKv ((keyD k, d) :: r) = max d.depth (PyData.depthKv r) := by
  cases k <;> simp only [PyData.depthKv, keyD, PyData.depth, Nat.zero_max]
theorem kv_le_l {k v : Str} : k.length ≤ (k ++ ": " ++ v).length := by rw [strLen_append, strLen_append]; omega
theorem kv_le_r {k v : Str} : v.length ≤ (k ++ ": " ++ v).length := by rw [strLen_append, strLen_append]; omega
section
variable {X : Cx} {pins : List (Addr × Obj)} {σ : L2.St} {H : Hp} {s : Shared}
theorem flat_sees (I : Inv X pins σ H s) {u : Value} {d : PyData} {as : List Addr} (r : Reads s.heap u d as) (no : d.hasDict = false) (sh : d.showable = true) (sz : d.shown.length ≤ sizeLine) : ∃ as bs, Reads s.heap u d as ∧ ReadAtMost s.heap d.depth bs ∧ ReprK X.prog X.w bs s.heap d.depth u d.shown := by
  obtain ⟨bs, h1, h2⟩ := ReprK.of_reads (prog := X.prog) (w := X.w) (h₀ := s.heap) r sh (fun z => by rw [no] at z; cases z) sz
  exact ⟨_, bs, r, h1, h2⟩
theorem key_sees (I : Inv X pins σ H s) {k : L2.Key} {u : Value} (hk : L2.keyIs k u = true) (sh : (keyD k).showable = true) (sz : (keyD k).shown.length ≤ sizeLine) : ∃ as bs, Reads s.heap u (keyD k) as ∧ ReadAtMost s.heap (keyD k).depth bs ∧ ReprK X.prog X.w bs s.heap (keyD k).depth u (keyD k).shown := by
  rcases L2.keyIs_shape hk with ⟨i, t, rfl, rfl⟩ | ⟨x, t, rfl, rfl⟩
  · exact flat_sees I (Reads.int i t) rfl sh sz
  · exact flat_sees I (Reads.str x t) rfl sh sz
mutual
theorem Dx.sees (I : Inv X pins σ H s) : ∀ (d : PyData) (v : V) (u : Value), Dx X.K H v d → RelV v u → d.showable = true → d.shown.length ≤ sizeLine →
    ∃ as bs, Reads s.heap u d as ∧ ReadAtMost s.heap d.depth bs ∧ ReprK X.prog X.w bs s.heap d.depth u d.shown
  | .none, _, _, h, r, sh, sz => by
    cases h
    cases r
    exact flat_sees I Reads.none rfl sh sz
  | .bool b, _, _, h, r, sh, sz => by
    cases h
    cases r
    exact flat_sees I (Reads.bool b) rfl sh sz
  | .int i, _, _, h, r, sh, sz => by
    cases h
    obtain ⟨t, rfl⟩ := r
    exact flat_sees I (Reads.int i t) rfl sh sz
  | .str x, _, _, h, r, sh, sz => by
    cases h
    obtain ⟨t, rfl⟩ := r
    exact flat_sees I (Reads.str x t) rfl sh sz
  | .list ds, _, _, h, r, sh, sz => by
    cases h with
    | @lst a xs _ hs ha =>
      cases r
      obtain ⟨its, rv, ⟨o, n, ho, hc, _, hd⟩, _⟩ := I.list (SqL.of hs)
      have sz' : (listText (PyData.shownAll ds)).length ≤ sizeLine := by simpa only [PyData.shown] using sz
      obtain ⟨as, bs, hr, hb, hk⟩ := Dx.seesAll I ds _ its ha rv (by simpa [PyData.showable] using sh) fun t ht => Nat.le_trans (listText_mem_le ht) sz'
      have rd : Reads s.heap (.ref a) (.list ds) _ := .list ho hc hd hr
      have new : a ∉ bs := not_mem_of_deeper rd (by simp only [PyData.depth]; omega) hb
      refine ⟨_, a :: bs, rd, ReadAtMost.cons rd (by simp only [PyData.depth]; omega) hb, ?_⟩
      simp only [PyData.depth, PyData.shown]
      cases its with
      | nil =>
        cases hr
        simp only [PyData.shownAll, listText_nil]
        exact ReprK.listEmpty ho hc hd
      | cons x l => exact ReprK.list ho hc hd new (by simpa using hk.length_eq) fun i y e => hk.item i y (by simpa using e)
  | .tuple ds, _, _, h, r, sh, sz => by
    cases h with
    | @tup a xs _ hs ha =>
      cases r
      obtain ⟨its, rv, ⟨o, ho, hc, n, hd⟩, _⟩ := I.tuple (SqT.of hs)
      have sz' : (tupleText (PyData.shownAll ds)).length ≤ sizeLine := by simpa only [PyData.shown] using sz
      obtain ⟨as, bs, hr, hb, hk⟩ := Dx.seesAll I ds _ its ha rv (by simpa [PyData.showable] using sh) fun t ht => Nat.le_trans (tupleText_mem_le ht) sz'
      have rd : Reads s.heap (.ref a) (.tuple ds) _ := .tuple ho hc hd hr
      have new : a ∉ bs := not_mem_of_deeper rd (by simp only [PyData.depth]; omega) hb
      refine ⟨_, a :: bs, rd, ReadAtMost.cons rd (by simp only [PyData.depth]; omega) hb, ?_⟩
      simp only [PyData.depth, PyData.shown]
      exact ReprK.tuple ho hc hd new hk
  | .dict kvs, _, _, h, r, sh, sz => by
    cases h with
    | @dic a rows _ ha hr =>
      cases r
      obtain ⟨_, hne, vs, rv, o, es, ep, h1, h2, h3, _, h4, _⟩ := dk_of I.hok ha
      have sz' : (dictText (PyData.shownKv kvs)).length ≤ sizeLine := by simpa only [PyData.shown] using sz
      obtain ⟨as1, as2, bs, r1, r2, hb, k1, k2⟩ := Dx.seesKv I kvs rows vs es.toList hr rv h4 (by simpa [PyData.showable] using sh) fun t ht => Nat.le_trans (dictText_mem_le ht) sz'
      have rd : Reads s.heap (.ref a) (.dict kvs) _ := .dict h1 h2.1 h3 r1 r2
      have new : a ∉ bs := not_mem_of_deeper rd (by simp only [PyData.depth]; omega) hb
      refine ⟨_, a :: bs, rd, ReadAtMost.cons rd (by simp only [PyData.depth]; omega) hb, ?_⟩
      simp only [PyData.depth, PyData.shown, PyData.shownKv_eq]
      exact ReprK.dict h1 h2.1 h3 hne new (ReprEntriesK.of_two es.toList _ _ k1 k2)
theorem Dx.seesAll (I : Inv X pins σ H s) : ∀ (ds : List PyData) (vs : List V) (us : List Value), DxAll X.K H vs ds → Vals vs us → PyData.showableAll ds = true → (∀ t ∈ PyData.shownAll ds, t.length ≤ sizeLine) →
    ∃ as bs, ReadsAll s.heap us ds as ∧ ReadAtMost s.heap (PyData.depthAll ds) bs ∧ ReprAllK X.prog X.w bs s.heap (PyData.depthAll ds) us (PyData.shownAll ds)
  | [], _, _, h, r, _, _ => by
    cases h
    cases r
    refine ⟨_, [], ReadsAll.nil, ⟨fun b z => (by simp at z), ?_⟩⟩
    simp only [PyData.shownAll]
    exact .nil
  | d :: ds, _, _, h, r, sh, sz => by
    cases h with
    | cons h1 h2 =>
      cases r with
      | cons r1 r2 =>
        have sh' : d.showable = true ∧ PyData.showableAll ds = true := by simpa [PyData.showableAll] using sh
        obtain ⟨a1, b1, q1, m1, k1⟩ := Dx.sees I d _ _ h1 r1 sh'.1 (sz _ (by simp only [PyData.shownAll]; exact List.mem_cons_self))
        obtain ⟨a2, b2, q2, m2, k2⟩ := Dx.seesAll I ds _ _ h2 r2 sh'.2 fun t ht => sz t (by simp only [PyData.shownAll]; exact List.mem_cons_of_mem _ ht)
        refine ⟨_, b1 ++ b2, ReadsAll.cons q1 q2, fun b hb => ?_, ?_⟩
        · simp only [PyData.depthAll]
          rcases List.mem_append.mp hb with hb | hb
          · obtain ⟨d', a', r', y⟩ := m1 b hb
            exact ⟨d', a', r', by omega⟩
          · obtain ⟨d', a', r', y⟩ := m2 b hb
            exact ⟨d', a', r', by omega⟩
        · simp only [PyData.depthAll, PyData.shownAll]
          refine .cons ((k1.more fun b hb => List.mem_append.mpr (.inl hb)).level_le (by omega)) (k2.more_le (fun b hb => List.mem_append.mpr (.inr hb)) (by omega))
theorem Dx.seesKv (I : Inv X pins σ H s) : ∀ (kvs : List (PyData × PyData)) (rows : List (L2.Key × V)) (vs : List (L2.Key × Value)) (es : List DictEntry), DxKv X.K H rows kvs → KV rows vs → Pairs (mixKind X.prog X.w) es vs → PyData.showableKv kvs = true → (∀ t ∈ PyData.shownKv kvs, t.length ≤ sizeLine) →
    ∃ as1 as2 bs, ReadsAll s.heap (es.map (·.key)) (kvs.map (·.1)) as1 ∧ ReadsAll s.heap (es.map (·.val)) (kvs.map (·.2)) as2 ∧ ReadAtMost s.heap (PyData.depthKv kvs) bs ∧
      ReprAllK X.prog X.w bs s.heap (PyData.depthKv kvs) (es.map (·.key)) (PyData.shownAll (kvs.map (·.1))) ∧ ReprAllK X.prog X.w bs s.heap (PyData.depthKv kvs) (es.map (·.val)) (PyData.shownAll (kvs.map (·.2)))
  | [], _, _, _, h, r, p, _, _ => by
    cases h
    cases r
    cases p
    refine ⟨_, _, [], ReadsAll.nil, ReadsAll.nil, fun b z => (by simp at z), ?_, ?_⟩
    · simp only [List.map_nil, PyData.shownAll]
      exact .nil
    · simp only [List.map_nil, PyData.shownAll]
      exact .nil
  | (dk, d) :: kvs, _, _, _, h, r, p, sh, sz => by
    cases h with
    | @cons k v rows _ _ h1 h2 =>
      cases r with
      | @cons _ y _ ys r1 r2 =>
        cases p with
        | @cons e _ es _ p1 p2 p3 =>
          obtain ⟨yk, yv⟩ := y
          obtain ⟨e1, e2⟩ := r1
          have e1' : k = yk := e1
          subst e1'
          have e2' : RelV v e.val := by rw [p2]; exact e2
          have sh' : ((keyD k).showable = true ∧ d.showable = true) ∧ PyData.showableKv kvs = true := by simpa [PyData.showableKv] using sh
          have z0 := sz ((keyD k).shown ++ ": " ++ d.shown) (by simp only [PyData.shownKv]; exact List.mem_cons_self)
          obtain ⟨a0, b0, q0, m0, k0⟩ := key_sees I (k := k) (u := e.key) p1 sh'.1.1 (Nat.le_trans kv_le_l z0)
          obtain ⟨a1, b1, q1, m1, k1⟩ := Dx.sees I d _ _ h1 e2' sh'.1.2 (Nat.le_trans kv_le_r z0)
          obtain ⟨c1, c2, b2, q2, q3, m2, k2, k3⟩ := Dx.seesKv I kvs _ _ _ h2 r2 p3 sh'.2 fun t ht => sz t (by simp only [PyData.shownKv]; exact List.mem_cons_of_mem _ ht)
          refine ⟨_, _, b0 ++ (b1 ++ b2), ReadsAll.cons q0 q2, ReadsAll.cons q1 q3, fun b hb => ?_, ?_, ?_⟩
          · simp only [PyData.depthKv]
            rcases List.mem_append.mp hb with hb | hb
            · obtain ⟨d', a', r', y⟩ := m0 b hb
              exact ⟨d', a', r', by omega⟩
            · rcases List.mem_append.mp hb with hb | hb
              · obtain ⟨d', a', r', y⟩ := m1 b hb
                exact ⟨d', a', r', by omega⟩
              · obtain ⟨d', a', r', y⟩ := m2 b hb
                exact ⟨d', a', r', by omega⟩
          · simp only [PyData.depthKv, List.map_cons, PyData.shownAll]
            exact .cons ((k0.more fun b hb => List.mem_append.mpr (.inl hb)).level_le (by omega)) (k2.more_le (fun b hb => List.mem_append.mpr (.inr (List.mem_append.mpr (.inr hb)))) (by omega))
          · simp only [PyData.depthKv, List.map_cons, PyData.shownAll]
            exact .cons ((k1.more fun b hb => List.mem_append.mpr (.inr (List.mem_append.mpr (.inl hb)))).level_le (by omega)) (k3.more_le (fun b hb => List.mem_append.mpr (.inr (List.mem_append.mpr (.inr hb)))) (by omega))
end
/-- repr of data of any kind, dicts within -/
def rReprX (K : PySem.W.Frag) : List V → Hp → VK → Prop := fun xs H Q => ∃ (x : V) (d : PyData), xs = [x] ∧ Dx K H x d ∧ d.showable = true ∧ d.depth ≤ 60 ∧ d.shown.length ≤ sizeLine ∧ Q (.str d.shown) H
theorem call_reprX (hg : X.A.guards = some []) (hu : X.A.units + 64 < cLine) : CallR X (.builtin "repr") (rReprX X.K) := by
  intro pins s σ H xs us Q I r h
  obtain ⟨x, d, rfl, hd, sh, dp, sz, q⟩ := h
  cases hd with
  | int i => exact call_reprA hg hu pins s σ H _ us Q I r ⟨_, _, rfl, .int i, sh, dp, sz, q⟩
  | non => exact call_reprA hg hu pins s σ H _ us Q I r ⟨_, _, rfl, .non, sh, dp, sz, q⟩
  | bl b => exact call_reprA hg hu pins s σ H _ us Q I r ⟨_, _, rfl, .bl b, sh, dp, sz, q⟩
  | str z => exact call_reprA hg hu pins s σ H _ us Q I r ⟨_, _, rfl, .str z, sh, dp, sz, q⟩
  | @lst a xs ds hs hd =>
    have dp' : PyData.depthAll ds + 1 ≤ 60 := by simpa only [PyData.depth] using dp
    obtain ⟨u, rfl, ru⟩ := vals1 r
    cases (show u = Value.ref a from ru)
    obtain ⟨its, rv, ⟨o, n, ho, hc, _, hdd⟩, _⟩ := I.list (SqL.of hs)
    have sz' : (listText (PyData.shownAll ds)).length ≤ sizeLine := by simpa only [PyData.shown] using sz
    obtain ⟨as, bs, hr, hb, hk⟩ := Dx.seesAll I ds xs its hd rv (by simpa only [PyData.showable] using sh) fun t ht => Nat.le_trans (listText_mem_le ht) sz'
    have rd : Reads s.heap (.ref a) (.list ds) _ := .list ho hc hdd hr
    have new : a ∉ bs := not_mem_of_deeper rd (by simp only [PyData.depth]; omega) hb
    refine call_repr_slot (T := "list") (by omega) ⟨o, ho, hc⟩ PySem.F.slot_list_repr.toG ?_
    cases its with
    | nil =>
      cases hr
      have e0 : (PyData.list []).shown = ("[]" : Str) := by simp only [PyData.shown, PyData.shownAll, listText_nil]
      refine call_list_repr_empty ⟨o, ho, hc⟩ ho hdd ⟨_, _, rfl, .str (PyData.list []).shown, H, ?_, ⟨_, by rw [e0]⟩, q⟩
      exact I.kept (t' := _) fun _ _ y => y
    | cons y l =>
      refine call_list_reprK ho hc hdd new (by simpa using hk.length_eq) (fun i y e => hk.item i y (by simpa using e)) hg (fun b _ => Clear.nil b) (by show X.A.units + 1 + (PyData.depthAll ds + 1) < cLine; omega) (fun _ _ e => e) (fun h' u tk keep => ?_) sz'
      refine ⟨_, _, rfl, .str (PyData.list ds).shown, H, I.kept keep, ⟨u, ?_⟩, q⟩
      simp only [PyData.shown]
  | @tup a xs ds hs hd =>
    have dp' : PyData.depthAll ds + 1 ≤ 60 := by simpa only [PyData.depth] using dp
    obtain ⟨u, rfl, ru⟩ := vals1 r
    cases (show u = Value.ref a from ru)
    obtain ⟨its, rv, ⟨o, ho, hc, n, hdd⟩, _⟩ := I.tuple (SqT.of hs)
    have sz' : (tupleText (PyData.shownAll ds)).length ≤ sizeLine := by simpa only [PyData.shown] using sz
    obtain ⟨as, bs, hr, hb, hk⟩ := Dx.seesAll I ds xs its hd rv (by simpa only [PyData.showable] using sh) fun t ht => Nat.le_trans (tupleText_mem_le ht) sz'
    have rd : Reads s.heap (.ref a) (.tuple ds) _ := .tuple ho hc hdd hr
    have new : a ∉ bs := not_mem_of_deeper rd (by simp only [PyData.depth]; omega) hb
    refine call_repr_slot (T := "tuple") (by omega) ⟨o, ho, hc⟩ PySem.F.slot_tuple_repr (call_tuple_reprK ho hc hdd new hk hg (fun b _ => Clear.nil b) (by show X.A.units + 1 + (PyData.depthAll ds + 1) < cLine; omega) (fun _ _ e => e) (fun h' u tk keep => ?_) sz')
    refine ⟨_, _, rfl, .str (PyData.tuple ds).shown, H, I.kept keep, ⟨u, ?_⟩, q⟩
    simp only [PyData.shown]
  | @dic a rows kvs hs hd =>
    have dp' : PyData.depthKv kvs + 1 ≤ 60 := by simpa only [PyData.depth] using dp
    obtain ⟨u, rfl, ru⟩ := vals1 r
    cases (show u = Value.ref a from ru)
    obtain ⟨_, hne, vs, rv, o, es, ep, h1, h2, h3, _, h4, _⟩ := dk_of I.hok hs
    have sz' : (dictText (PyData.shownKv kvs)).length ≤ sizeLine := by simpa only [PyData.shown] using sz
    obtain ⟨as1, as2, bs, r1, r2, hb, k1, k2⟩ := Dx.seesKv I kvs rows vs es.toList hd rv h4 (by simpa [PyData.showable] using sh) fun t ht => Nat.le_trans (dictText_mem_le ht) sz'
    have rd : Reads s.heap (.ref a) (.dict kvs) _ := .dict h1 h2.1 h3 r1 r2
    have new : a ∉ bs := not_mem_of_deeper rd (by simp only [PyData.depth]; omega) hb
    have e1 := ReprEntriesK.of_two es.toList _ _ k1 k2
    rw [← PyData.shownKv_eq] at e1
    refine call_repr_slot (T := "dict") (by omega) ⟨o, h1, h2.1⟩ PySem.F.slot_dict_repr (call_dict_reprK h1 h2.1 h3 hne new e1 hg (fun b _ => Clear.nil b) (by show X.A.units + 1 + (PyData.depthKv kvs + 1) < cLine; omega) (fun _ _ e => e) (fun h' u tk keep => ?_) sz')
    refine ⟨_, _, rfl, .str (PyData.dict kvs).shown, H, I.kept keep, ⟨u, ?_⟩, q⟩
    simp only [PyData.shown]
end
end Af

set_option Elab.async false
set_option linter.all false
set_option maxRecDepth 100000
set_option maxHeartbeats 4000000
namespace Af
open PySem PySem.Spec PyProof.Rows L2
theorem _root_.L2.Room.u1 {k : Nat} {A : Around} (r : L2.Room k A) : A.units + 1 < cLine := by have := r.units; omega
/-! patterns: dicts of cells and ascending worths; patterns among data -/
section
variable {K : PySem.W.Frag} {H : Hp}
theorem dx_ty {x : V} {d : PyData} (h : Dx K H x d) : ∃ n, Ty K H x n := by
  cases h with
  | non => exact ⟨_, .non, by decide, fun _ _ _ e => by cases e⟩
  | bl b => exact ⟨_, .bl b, by decide, fun _ _ _ e => by cases e⟩
  | int i => exact ⟨_, .int i, by decide, fun _ _ _ e => by cases e⟩
  | str z => exact ⟨_, .str z, by decide, fun _ _ _ e => by cases e⟩
  | lst e t => exact ⟨_, .lst e, by decide, fun b o u z q => by cases z; rw [e] at q; cases q⟩
  | tup e t => exact ⟨_, .tup e, by decide, fun b o u z q => by cases z; rw [e] at q; cases q⟩
  | dic e t => exact ⟨_, .dK e, by decide, fun b o u z q => by cases z; rw [e] at q; cases q⟩
theorem dx_idx {x : V} {d : PyData} (h : Dx K H x d) (m : Int) : idxB m x = idxD m d := by
  cases h <;> rfl
theorem dx_all {m : Int} : ∀ {xs : List V} {ds : List PyData}, DxAll K H xs ds → xs.all (idxB m) = ds.all (idxD m)
  | _, _, .nil => rfl
  | _, _, .cons r t => by rw [List.all_cons, List.all_cons, dx_idx r, dx_all t]
theorem dx_empty : ∀ {xs : List V} {ds : List PyData}, DxAll K H xs ds → xs.isEmpty = ds.isEmpty
  | _, _, .nil => rfl
  | _, _, .cons _ _ => rfl
theorem dx_worths {x : V} {d : PyData} (h : Dx K H x d) : worthsB H x = worthsD d := by
  cases h with
  | lst e t => simp only [worthsB, e, worthsD]
  | tup e t => simp only [worthsB, e, worthsD]; rw [dx_empty t, dx_all t]
  | dic e t => simp only [worthsB, e, worthsD]
  | _ => rfl
theorem DxAll.mem : ∀ {xs : List V} {ds : List PyData}, DxAll K H xs ds → ∀ {y : V}, y ∈ xs → ∃ d ∈ ds, Dx K H y d
  | _, _, .nil, y, h => by cases h
  | _, _, .cons r t, y, h => by
    rcases List.mem_cons.mp h with rfl | h
    · exact ⟨_, List.mem_cons_self, r⟩
    · obtain ⟨d, h1, h2⟩ := t.mem h
      exact ⟨d, List.mem_cons_of_mem _ h1, h2⟩
/-- lists and tuples at the top are not long -/
def WdD (d : PyData) : Prop := ∀ ds, d = .tuple ds ∨ d = .list ds → ds.length ≤ 1000
theorem dx_th1 {x : V} {d : PyData} (h : Dx K H x d) (w : WdD d) : Th K H 1 x := by
  refine ⟨dx_ty h, fun a xs e z => ?_⟩
  subst e
  cases h with
  | @lst _ ys ds e t =>
    have l := w ds (.inr rfl)
    rcases z with z | z
    · rw [e] at z; cases z
    · rw [e] at z; cases z; exact ⟨by rw [t.len]; omega, fun y hy => by obtain ⟨d, _, q⟩ := t.mem hy; exact dx_ty q⟩
  | @tup _ ys ds e t =>
    have l := w ds (.inl rfl)
    rcases z with z | z
    · rw [e] at z; cases z; exact ⟨by rw [t.len]; omega, fun y hy => by obtain ⟨d, _, q⟩ := t.mem hy; exact dx_ty q⟩
    · rw [e] at z; cases z
  | dic e t => rcases z with z | z <;> (rw [e] at z; cases z)
end
/-! ascending worths -/
def ascB : List Int → Bool
  | a :: b :: r => decide (a < b) && ascB (b :: r)
  | _ => true
def stI (ws : List Int) (i : Nat) : Bool := decide (ws.getD i 0 < ws.getD (i + 1) 0)
theorem asc_range : ∀ ws : List Int, (List.range (ws.length - 1)).all (stI ws) = ascB ws
  | [] => rfl
  | [_] => rfl
  | a :: b :: r => by
    have ih := asc_range (b :: r)
    show (List.range (r.length + 1)).all (stI (a :: b :: r)) = (decide (a < b) && ascB (b :: r))
    rw [← ih, List.range_succ_eq_map, List.all_cons, List.all_map]
    rfl
theorem asc_iff : ∀ {ws : List Int}, ascB ws = true ↔ ws.Pairwise (· < ·)
  | [] => ⟨fun _ => .nil, fun _ => rfl⟩
  | [_] => ⟨fun _ => List.pairwise_singleton _ _, fun _ => rfl⟩
  | a :: b :: r => by
    have ih := asc_iff (ws := b :: r)
    show (decide (a < b) && ascB (b :: r)) = true ↔ _
    rw [Bool.and_eq_true, decide_eq_true_iff, ih]
    constructor
    · rintro ⟨h1, h2⟩
      refine List.pairwise_cons.mpr ⟨fun z hz => ?_, h2⟩
      rcases List.mem_cons.mp hz with rfl | hz
      · exact h1
      · have := (List.pairwise_cons.mp h2).1 z hz
        omega
    · intro h
      obtain ⟨h1, h2⟩ := List.pairwise_cons.mp h
      exact ⟨h1 b List.mem_cons_self, h2⟩
/-! patterns of any data -/
def intD : PyData → Int
  | .int i => i
  | _ => 0
def intsD : PyData → List Int
  | .tuple ds => ds.map intD
  | _ => []
def letD (d : PyData) : Bool := worthsD d && ascB (intsD d)
def patB (n : Int) : PyData → Bool
  | .dict kvs => kvs.all fun p => idxD n p.1 && letD p.2
  | _ => false
/-- a dict whose values are not long -/
def SzP (d : PyData) : Prop := ∀ kvs, d = .dict kvs → kvs.length ≤ 1000 ∧ (kvs.map (·.1)).Nodup ∧ ∀ p ∈ kvs, WdD p.2
section
variable {K : PySem.W.Frag} {H : Hp}
theorem idx_int {m : Int} {x : V} (h : idxB m x = true) : ∃ i, x = .int i ∧ 0 ≤ i ∧ i < m := by
  cases x with
  | int i =>
    have h : (decide (0 ≤ i) && decide (i < m)) = true := h
    rw [Bool.and_eq_true, decide_eq_true_iff, decide_eq_true_iff] at h
    exact ⟨i, rfl, h.1, h.2⟩
  | _ => cases h
theorem dx_int {m : Int} {x : V} {d : PyData} (q : Dx K H x d) (h : idxD m d = true) : x = .int (intD d) ∧ 0 ≤ intD d ∧ intD d < m := by
  rw [← dx_idx q] at h
  obtain ⟨i, rfl, a, b⟩ := idx_int h
  cases q
  exact ⟨rfl, a, b⟩
theorem dx_ints {m : Int} : ∀ {xs : List V} {ds : List PyData}, DxAll K H xs ds → ds.all (idxD m) = true → xs = ivs (ds.map intD) ∧ ∀ z ∈ ds.map intD, 0 ≤ z ∧ z < m
  | _, _, .nil, _ => ⟨rfl, fun z h => by cases h⟩
  | _, _, .cons r t, h => by
    rw [List.all_cons, Bool.and_eq_true] at h
    obtain ⟨e1, e2, e3⟩ := dx_int r h.1
    obtain ⟨a, b⟩ := dx_ints t h.2
    refine ⟨?_, fun z hz => ?_⟩
    · rw [e1, a]
      rfl
    · rcases List.mem_cons.mp hz with rfl | hz
      · exact ⟨e2, e3⟩
      · exact b z hz
/-- worths among data -/
theorem dx_let {x : V} {d : PyData} (q : Dx K H x d) (h : worthsD d = true) : ∃ a, x = .ref a ∧ H a = some (.tup (ivs (intsD d))) ∧ intsD d ≠ [] ∧ ∀ z ∈ intsD d, 0 ≤ z ∧ z < 8 := by
  cases q with
  | @tup a xs ds e t =>
    have h : (!ds.isEmpty && ds.all (idxD 8)) = true := h
    rw [Bool.and_eq_true] at h
    obtain ⟨e1, b⟩ := dx_ints t h.2
    refine ⟨a, rfl, by rw [e, e1]; rfl, fun z => ?_, b⟩
    cases ds with
    | nil => cases h.1
    | cons _ _ => cases z
  | _ => cases h
theorem dx_dict_or {x : V} {d : PyData} (h : Dx K H x d) : (∃ a rows kvs, x = .ref a ∧ H a = some (.dK rows) ∧ d = .dict kvs ∧ DxKv K H rows kvs) ∨ (∃ n, Ty K H x n ∧ isB n "dict" = false ∧ ∀ kvs, d ≠ .dict kvs) := by
  cases h with
  | non => exact .inr ⟨_, ⟨.non, by decide, fun _ _ _ e => by cases e⟩, by decide, fun _ e => by cases e⟩
  | bl b => exact .inr ⟨_, ⟨.bl b, by decide, fun _ _ _ e => by cases e⟩, by decide, fun _ e => by cases e⟩
  | int i => exact .inr ⟨_, ⟨.int i, by decide, fun _ _ _ e => by cases e⟩, by decide, fun _ e => by cases e⟩
  | str z => exact .inr ⟨_, ⟨.str z, by decide, fun _ _ _ e => by cases e⟩, by decide, fun _ e => by cases e⟩
  | lst e t => exact .inr ⟨_, ⟨.lst e, by decide, fun b o u z q => by cases z; rw [e] at q; cases q⟩, by decide, fun _ e => by cases e⟩
  | tup e t => exact .inr ⟨_, ⟨.tup e, by decide, fun b o u z q => by cases z; rw [e] at q; cases q⟩, by decide, fun _ e => by cases e⟩
  | dic e t => exact .inl ⟨_, _, _, rfl, e, rfl, t⟩
theorem ty_d {a : Addr} {rows : List (L2.Key × V)} (h : H a = some (.dK rows)) : Ty K H (.ref a) "dict" := ⟨.dK h, by decide, fun b o u e z => by cases e; rw [h] at z; cases z⟩
theorem isB_dd : isB "dict" "dict" = true := by decide
theorem DxKv.at : ∀ {rows : List (L2.Key × V)} {kvs : List (PyData × PyData)}, DxKv K H rows kvs → ∀ {i : Nat} {k : L2.Key} {v : V}, rows[i]? = some (k, v) → ∃ d, kvs[i]? = some (keyD k, d) ∧ Dx K H v d
  | _, _, .nil, i, k, v, h => by simp at h
  | _, _, .cons r t, 0, k, v, h => by cases h; exact ⟨_, rfl, r⟩
  | _, _, .cons r t, i + 1, k, v, h => t.at (i := i) h
theorem DxKv.keys : ∀ {rows : List (L2.Key × V)} {kvs : List (PyData × PyData)}, DxKv K H rows kvs → kvs.map (·.1) = (rows.map (·.1)).map keyD
  | _, _, .nil => rfl
  | _, _, .cons _ t => by rw [List.map_cons, List.map_cons, List.map_cons, t.keys]
theorem DxKv.nd {rows : List (L2.Key × V)} {kvs : List (PyData × PyData)} (h : DxKv K H rows kvs) (n : (kvs.map (·.1)).Nodup) : (rows.map (·.1)).Nodup := by
  rw [h.keys] at n
  exact (List.pairwise_map.mp n).imp fun {a b} z e => z (by rw [e])
theorem key_idx (k : L2.Key) (m : Int) : idxB m (kV k) = idxD m (keyD k) := by cases k <;> rfl
theorem key_ty (k : L2.Key) : ∃ n, Ty K H (kV k) n := by
  cases k with
  | inl i => exact ⟨_, .int i, by decide, fun _ _ _ e => by cases e⟩
  | inr x => exact ⟨_, .str x, by decide, fun _ _ _ e => by cases e⟩
theorem valV_at : ∀ {rows : List (L2.Key × V)} {i : Nat} {k : L2.Key} {v : V}, (rows.map (·.1)).Nodup → rows[i]? = some (k, v) → valV rows k = some v
  | [], i, k, v, _, h => by simp at h
  | p :: r, 0, k, v, _, h => by
    cases h
    exact valV_pos rfl
  | p :: r, i + 1, k, v, n, h => by
    rw [List.map_cons] at n
    obtain ⟨n1, n2⟩ := List.nodup_cons.mp n
    have hm : k ∈ r.map (·.1) := by
      have := List.mem_of_getElem? (l := r) (i := i) (by simpa using h)
      exact List.mem_map.mpr ⟨_, this, rfl⟩
    rw [valV_neg (fun e => n1 (by rw [e]; exact hm))]
    exact valV_at n2 (by simpa using h)
end
/-! locked while it is walked -/
theorem lock_same {H H' : Hp} {d : Addr} {u : HO} {od : Obj} (h : H d = some u) (s : Same (upd H d (.frz od u)) H') : Same H (upd H' d u) := fun a o e => by
  by_cases c : a = d
  · subst c
    rw [upd_same]
    rw [h] at e
    exact e
  · rw [upd_ne c]
    exact s a o (by rw [upd_ne c]; exact e)
theorem lock_at {H H' : Hp} {d : Addr} {u : HO} {od : Obj} (s : Same (upd H d (.frz od u)) H') : H' d = some (.frz od u) := s _ _ upd_same
theorem lock_get {H : Hp} {d a : Addr} {u o : HO} {od : Obj} (h : H d = some u) (e : H a = some o) (n : o ≠ u) : upd H d (.frz od u) a = some o := by
  rw [upd_ne (fun z => n (by rw [z, h] at e; exact (Option.some.inj e).symm))]
  exact e
/-- the heap without the locked dict -/
theorem lock_hd {H : Hp} {d : Addr} {x : HO} : Same (hd d H) (upd H d x) := fun a o e => by
  by_cases c : a = d
  · rw [c, show hd d H d = none from if_pos rfl] at e
    cases e
  · rw [hd_ne c] at e
    rw [upd_ne c]
    exact e
mutual
theorem Dx.fn {K : PySem.W.Frag} {H : Hp} : ∀ {v : V} {d : PyData}, Dx K H v d → ∀ {d' : PyData}, Dx K H v d' → d = d'
  | _, _, .non, _, h => by cases h; rfl
  | _, _, .bl b, _, h => by cases h; rfl
  | _, _, .int i, _, h => by cases h; rfl
  | _, _, .str x, _, h => by cases h; rfl
  | _, _, .lst e t, _, h => by
    cases h with
    | lst e' t' => rw [e] at e'; cases e'; rw [DxAll.fn t t']
    | tup e' t' => rw [e] at e'; cases e'
    | dic e' t' => rw [e] at e'; cases e'
  | _, _, .tup e t, _, h => by
    cases h with
    | lst e' t' => rw [e] at e'; cases e'
    | tup e' t' => rw [e] at e'; cases e'; rw [DxAll.fn t t']
    | dic e' t' => rw [e] at e'; cases e'
  | _, _, .dic e t, _, h => by
    cases h with
    | lst e' t' => rw [e] at e'; cases e'
    | tup e' t' => rw [e] at e'; cases e'
    | dic e' t' => rw [e] at e'; cases e'; rw [DxKv.fn t t']
theorem DxAll.fn {K : PySem.W.Frag} {H : Hp} : ∀ {v : List V} {d : List PyData}, DxAll K H v d → ∀ {d' : List PyData}, DxAll K H v d' → d = d'
  | _, _, .nil, _, h => by cases h; rfl
  | _, _, .cons r t, _, h => by
    cases h with
    | cons r' t' => rw [Dx.fn r r', DxAll.fn t t']
theorem DxKv.fn {K : PySem.W.Frag} {H : Hp} : ∀ {v : List (L2.Key × V)} {d : List (PyData × PyData)}, DxKv K H v d → ∀ {d' : List (PyData × PyData)}, DxKv K H v d' → d = d'
  | _, _, .nil, _, h => by cases h; rfl
  | _, _, .cons r t, _, h => by
    cases h with
    | cons r' t' => rw [Dx.fn r r', DxKv.fn t t']
end
/-- what is less deep than what stands at a is told without a -/
theorem dp_l {ds : List PyData} : (PyData.list ds).depth = PyData.depthAll ds + 1 := by simp only [PyData.depth]
theorem dp_t {ds : List PyData} : (PyData.tuple ds).depth = PyData.depthAll ds + 1 := by simp only [PyData.depth]
theorem dp_d {kvs : List (PyData × PyData)} : (PyData.dict kvs).depth = PyData.depthKv kvs + 1 := by simp only [PyData.depth]
mutual
theorem Dx.off {K : PySem.W.Frag} {H : Hp} {a : Addr} {D : PyData} (h : Dx K H (.ref a) D) : ∀ {v : V} {d : PyData}, Dx K H v d → d.depth < D.depth → Dx K (hd a H) v d
  | _, _, .non, _ => .non
  | _, _, .bl b, _ => .bl b
  | _, _, .int i, _ => .int i
  | _, _, .str x, _ => .str x
  | _, _, .lst (a := b) e t, l => by
    have ne : b ≠ a := fun z => by
      subst z
      rw [Dx.fn h (.lst e t)] at l
      omega
    exact .lst ((hd_ne ne).trans e) (DxAll.off h t (by rw [dp_l] at l; omega))
  | _, _, .tup (a := b) e t, l => by
    have ne : b ≠ a := fun z => by
      subst z
      rw [Dx.fn h (.tup e t)] at l
      omega
    exact .tup ((hd_ne ne).trans e) (DxAll.off h t (by rw [dp_t] at l; omega))
  | _, _, .dic (a := b) e t, l => by
    have ne : b ≠ a := fun z => by
      subst z
      rw [Dx.fn h (.dic e t)] at l
      omega
    exact .dic ((hd_ne ne).trans e) (DxKv.off h t (by rw [dp_d] at l; omega))
theorem DxAll.off {K : PySem.W.Frag} {H : Hp} {a : Addr} {D : PyData} (h : Dx K H (.ref a) D) : ∀ {v : List V} {d : List PyData}, DxAll K H v d → PyData.depthAll d < D.depth → DxAll K (hd a H) v d
  | _, _, .nil, _ => .nil
  | _, _, .cons r t, l => .cons (Dx.off h r (by simp only [PyData.depthAll] at l; omega)) (DxAll.off h t (by simp only [PyData.depthAll] at l; omega))
theorem DxKv.off {K : PySem.W.Frag} {H : Hp} {a : Addr} {D : PyData} (h : Dx K H (.ref a) D) : ∀ {v : List (L2.Key × V)} {d : List (PyData × PyData)}, DxKv K H v d → PyData.depthKv d < D.depth → DxKv K (hd a H) v d
  | _, _, .nil, _ => .nil
  | _, _, .cons r t, l => .cons (Dx.off h r (by simp only [PyData.depthKv] at l; omega)) (DxKv.off h t (by simp only [PyData.depthKv] at l; omega))
end
/-- the values of a dict, told while it is locked -/
theorem DxKv.lock {K : PySem.W.Frag} {H : Hp} {a : Addr} {rows : List (L2.Key × V)} {kvs : List (PyData × PyData)} {x : HO} (e : H a = some (.dK rows)) (t : DxKv K H rows kvs) : DxKv K (upd H a x) rows kvs :=
  DxKv.same lock_hd (DxKv.off (.dic e t) t (by rw [dp_d]; omega))
/-! patterns that are right -/
abbrev Ptn := List (Nat × List Int)
def RowV (H : Hp) (r : L2.Key × V) (p : Nat × List Int) : Prop := r.1 = .inl ((p.1 : Nat) : Int) ∧ ∃ t, r.2 = .ref t ∧ H t = some (.tup (ivs p.2))
structure PatV (H : Hp) (a : Addr) (ps : Ptn) : Prop where
  ex : ∃ rows, H a = some (.dK rows) ∧ Paired (RowV H) rows ps
theorem rows_kp {p : Addr} {H H' : Hp} {rows : List (L2.Key × V)} {ps : Ptn} (k : Kp p H H') (h : Paired (RowV H) rows ps) : Paired (RowV H') rows ps := L2.Paired.mapP h fun _ _ ⟨e, t, e2, z⟩ => ⟨e, t, e2, k.tup z⟩
theorem rows_same {H H' : Hp} {rows : List (L2.Key × V)} {ps : Ptn} (s : Same H H') (h : Paired (RowV H) rows ps) : Paired (RowV H') rows ps := rows_kp (p := 0) (Kp.same s) h
theorem PatV.kp {p a : Addr} {H H' : Hp} {ps : Ptn} (h : PatV H a ps) (k : Kp p H H') : PatV H' a ps := by
  obtain ⟨rows, h1, h2⟩ := h.ex
  exact ⟨rows, k _ _ (.inr fun l e => by cases e) h1, rows_kp k h2⟩
theorem PatV.same {a : Addr} {H H' : Hp} {ps : Ptn} (h : PatV H a ps) (s : Same H H') : PatV H' a ps := h.kp (p := 0) (Kp.same s)
structure OkPt (n : Nat) (ps : Ptn) : Prop where
  nd : (ps.map (·.1)).Nodup
  kb : ∀ p ∈ ps, p.1 < n
  ne : ∀ p ∈ ps, p.2 ≠ []
  asc : ∀ p ∈ ps, p.2.Pairwise (· < ·)
  rg : ∀ p ∈ ps, ∀ z ∈ p.2, 0 ≤ z ∧ z < 8
def patD (ps : Ptn) : PyData := .dict (ps.map fun p => (.int ((p.1 : Nat) : Int), .tuple (dvs p.2)))
theorem dx_pat {K : PySem.W.Frag} {H : Hp} {a : Addr} {ps : Ptn} (h : PatV H a ps) : Dx K H (.ref a) (patD ps) := by
  obtain ⟨rows, h1, h2⟩ := h.ex
  refine .dic h1 ?_
  clear h1 h
  induction h2 with
  | nil => exact .nil
  | @cons r p rs ps hr t ih =>
    obtain ⟨k, v⟩ := r
    obtain ⟨e1, t, e2, e3⟩ := hr
    have e1' : k = .inl ((p.1 : Nat) : Int) := e1
    have e2' : v = .ref t := e2
    subst e1' e2'
    exact .cons (k := .inl ((p.1 : Nat) : Int)) (Dx.of (.tup e3 (dq_ints p.2))) ih
theorem sub_lenI : ∀ {l1 l2 : List Int}, l1.Nodup → (∀ x ∈ l1, x ∈ l2) → l1.length ≤ l2.length
  | [], _, _, _ => Nat.zero_le _
  | x :: l1, l2, n, s => by
    obtain ⟨n1, n2⟩ := List.nodup_cons.mp n
    have h := sub_lenI (l2 := l2.erase x) n2 fun y hy => (List.mem_erase_of_ne (fun (e : y = x) => n1 (by rw [← e]; exact hy))).mpr (s y (List.mem_cons_of_mem _ hy))
    have hx := s x List.mem_cons_self
    rw [List.length_erase_of_mem hx] at h
    have := List.length_pos_of_mem hx
    rw [List.length_cons]
    omega
theorem asc_len {ws : List Int} (h : ws.Pairwise (· < ·)) (b : ∀ z ∈ ws, 0 ≤ z ∧ z < 8) : ws.length ≤ 8 := by
  have nd : ws.Nodup := h.imp fun {a b} z => by omega
  have : ws.length ≤ ([0, 1, 2, 3, 4, 5, 6, 7] : List Int).length := sub_lenI nd fun z hz => by
    have := b z hz
    simp only [List.mem_cons, List.not_mem_nil, or_false]
    omega
  exact this
theorem pat_sz {n : Nat} {ps : Ptn} (o : OkPt n ps) (hl : ps.length ≤ 1000) : SzP (patD ps) := fun kvs e => by
  cases e
  refine ⟨by rw [List.length_map]; exact hl, ?_, fun p hp => ?_⟩
  · rw [List.map_map]
    exact List.pairwise_map.mpr ((List.pairwise_map.mp o.nd).imp fun {a b} z e => z (by injection e; omega))
  · obtain ⟨q, hq, rfl⟩ := List.mem_map.mp hp
    intro ds e
    have := asc_len (o.asc q hq) (o.rg q hq)
    rcases e with e | e
    · cases e
      unfold dvs
      rw [List.length_map]
      omega
    · cases e
theorem pat_ok {n : Nat} {ps : Ptn} (o : OkPt n ps) : patB n (patD ps) = true := by
  show (ps.map fun p => (PyData.int ((p.1 : Nat) : Int), PyData.tuple (dvs p.2))).all _ = true
  rw [List.all_map, List.all_eq_true]
  intro p hp
  show (idxD n (.int ((p.1 : Nat) : Int)) && letD (.tuple (dvs p.2))) = true
  have kb := o.kb p hp
  have e1 : idxD (n : Int) (.int ((p.1 : Nat) : Int)) = true := by
    show (decide ((0 : Int) ≤ (p.1 : Int)) && decide ((p.1 : Int) < (n : Int))) = true
    rw [decide_eq_true (by omega), decide_eq_true (by omega)]
    rfl
  have rg := o.rg p hp
  have e2 : worthsD (.tuple (dvs p.2)) = true := by
    show (!(dvs p.2).isEmpty && (dvs p.2).all (idxD 8)) = true
    rw [Bool.and_eq_true, List.all_eq_true]
    refine ⟨?_, fun d hd => ?_⟩
    · have := o.ne p hp
      cases q : p.2 with
      | nil => exact absurd q this
      | cons _ _ => rfl
    · obtain ⟨z, hz, rfl⟩ := dvs_mem hd
      have := rg z hz
      show (decide (0 ≤ z) && decide (z < 8)) = true
      rw [decide_eq_true (by omega), decide_eq_true (by omega)]
      rfl
  have e3 : intsD (.tuple (dvs p.2)) = p.2 := by
    show (p.2.map PyData.int).map intD = p.2
    rw [List.map_map]
    exact List.map_id _
  unfold letD
  rw [e1, e2, e3, asc_iff.mpr (o.asc p hp)]
  rfl
/-- a content agrees with a pattern -/
def agB (ps : Ptn) (c : List Int) : Bool := ps.all fun p => p.2.contains (c.getD p.1 0)
/-! the texts of dicts -/
theorem Bd.dic {b n k : Nat} {kvs : List (PyData × PyData)} (h : ∀ p ∈ kvs, flatD p.1 = true ∧ Bd b n p.2) (hl : kvs.length ≤ k) : Bd (k * (b + 49) + 3) (n + 2) (.dict kvs) := by
  have tx : ((PyData.shownKv kvs).map (·.length)).sum ≤ (b + 47) * kvs.length ∧ (PyData.shownKv kvs).length = kvs.length ∧ PyData.showableKv kvs = true ∧ PyData.depthKv kvs ≤ n + 1 := by
    clear hl
    induction kvs with
    | nil => exact ⟨Nat.zero_le _, rfl, rfl, Nat.zero_le _⟩
    | cons p r ih =>
      obtain ⟨k, v⟩ := p
      obtain ⟨i1, i2, i3, i4⟩ := ih fun q hq => h q (List.mem_cons_of_mem _ hq)
      obtain ⟨f, hv⟩ := h (k, v) List.mem_cons_self
      obtain ⟨k1, k2, k3⟩ := flat_len f
      have v1 := hv.tx
      have v3 := hv.dp
      refine ⟨?_, ?_, ?_, ?_⟩
      · simp only [PyData.shownKv, List.map_cons, List.sum_cons, List.length_cons, Nat.mul_succ]
        have e : (k.shown ++ ": " ++ v.shown).length = k.shown.length + 2 + v.shown.length := by
          rw [strLen_append, strLen_append]
          rfl
        rw [e]
        dsimp only at k1 v1
        omega
      · simp only [PyData.shownKv, List.length_cons, i2]
      · simp only [PyData.showableKv, i3, Bool.and_true, Bool.and_eq_true]
        exact ⟨k2, hv.sh⟩
      · simp only [PyData.depthKv]
        dsimp only at v3 k3
        omega
  obtain ⟨t1, t2, t3, t4⟩ := tx
  have e : kvs.length * (b + 49) ≤ k * (b + 49) := Nat.mul_le_mul_right _ hl
  have e2 : kvs.length * (b + 49) = (b + 47) * kvs.length + 2 * kvs.length := by rw [Nat.mul_comm, ← Nat.add_mul]
  refine ⟨?_, ?_, ?_⟩
  · simp only [PyData.shown]
    have := dictText_len_le (PyData.shownKv kvs)
    rw [t2] at this
    omega
  · simp only [PyData.showable]
    exact t3
  · simp only [PyData.depth]
    omega
theorem bd_pat {n : Nat} {ps : Ptn} (o : OkPt n ps) (hn : n ≤ 24) (hl : ps.length ≤ 24) : Bd 31000 4 (patD ps) := by
  refine (Bd.dic (b := 1200) (n := 2) (k := 24) (fun p hp => ?_) (by rw [List.length_map]; exact hl)).mono (by decide) (by decide)
  obtain ⟨q, hq, rfl⟩ := List.mem_map.mp hp
  have kb := o.kb q hq
  exact ⟨flat_place ⟨by omega, by omega⟩, bd_cells (by have := asc_len (o.asc q hq) (o.rg q hq); omega) (o.rg q hq)⟩
theorem all_mapP {α : Type} (f : α → Bool) (l : List α) : (l.map f).all id = l.all f := by simp
theorem ivs_at {c : List Int} {i : Nat} (h : i < c.length) : (ivs c)[i]? = some (.int (c.getD i 0)) := by
  unfold ivs
  rw [List.getElem?_map, List.getElem?_eq_getElem h, List.getD_eq_getElem?_getD, List.getElem?_eq_getElem h]
  rfl
/-- what a pattern's rows hold while it is locked -/
theorem row_facts {H : Hp} {a : Addr} {rows : List (L2.Key × V)} {ps : Ptn} {od : Obj} {n : Nat} (ha : H a = some (.dK rows)) (hp : Paired (RowV H) rows ps) (o : OkPt n ps) : (rows.map (·.1)).Nodup ∧ ∀ (i : Nat) (k : L2.Key) (v : V), rows[i]? = some (k, v) → ∃ (p : Nat × List Int) (t : Addr), ps[i]? = some p ∧ k = .inl ((p.1 : Nat) : Int) ∧ v = .ref t ∧ upd H a (.frz od (.dK rows)) t = some (.tup (ivs p.2)) := by
  refine ⟨?_, fun i k v h => ?_⟩
  · have e : rows.map (·.1) = ps.map fun p => Sum.inl ((p.1 : Nat) : Int) := by
      clear o ha
      induction hp with
      | nil => rfl
      | cons r t ih => rw [List.map_cons, List.map_cons, ih, r.1]
    rw [e]
    exact List.pairwise_map.mpr ((List.pairwise_map.mp o.nd).imp fun {a b} z e => z (by injection e; omega))
  · obtain ⟨p, h1, e1, t, e2, h2⟩ := paired_get hp h
    exact ⟨p, t, h1, e1, e2, lock_get ha h2 (fun z => by cases z)⟩
/-! dicts that are written: their keys -/
theorem putK_keys {rows : List (L2.Key × V)} {ks : List Int} (h : rows.map (·.1) = ks.map Sum.inl) (z : Int) (v : V) : ∃ ks' : List Int, (putK rows (.inl z) v).map (·.1) = ks'.map Sum.inl ∧ (ks.Nodup → ks'.Nodup) ∧ (∀ x, x ∈ ks' ↔ x ∈ ks ∨ x = z) ∧ ks'.length ≤ ks.length + 1 := by
  unfold putK
  by_cases c : (rows.any fun kv => decide (kv.1 = .inl z)) = true
  · rw [if_pos c]
    have hz : z ∈ ks := by
      obtain ⟨p, hp, e⟩ := List.any_eq_true.mp c
      have e' := of_decide_eq_true e
      have m : (Sum.inl z : L2.Key) ∈ rows.map (·.1) := List.mem_map.mpr ⟨p, hp, e'⟩
      rw [h] at m
      obtain ⟨y, hy, e2⟩ := List.mem_map.mp m
      injection e2 with e2
      rw [← e2]
      exact hy
    refine ⟨ks, ?_, id, fun x => ⟨.inl, fun y => ?_⟩, Nat.le_succ _⟩
    · rw [← h, List.map_map]
      refine List.map_congr_left fun p _ => ?_
      show (if p.1 = .inl z then (p.1, v) else p).1 = p.1
      split <;> rfl
    · rcases y with y | rfl
      · exact y
      · exact hz
  · rw [if_neg c]
    have hz : z ∉ ks := fun hz => c (List.any_eq_true.mpr (by
      have m : (Sum.inl z : L2.Key) ∈ rows.map (·.1) := by rw [h]; exact List.mem_map.mpr ⟨z, hz, rfl⟩
      obtain ⟨p, hp, e⟩ := List.mem_map.mp m
      exact ⟨p, hp, decide_eq_true e⟩))
    refine ⟨ks ++ [z], ?_, fun n => ?_, fun x => ?_, by rw [List.length_append]; exact Nat.le_refl _⟩
    · rw [List.map_append, List.map_append, h]
      rfl
    · exact List.nodup_append.mpr ⟨n, by simp, fun x hx y hy e => by rw [List.mem_singleton.mp hy] at e; exact hz (e ▸ hx)⟩
    · rw [List.mem_append, List.mem_singleton]
theorem putK_snoc {rows : List (L2.Key × V)} {k : L2.Key} {v : V} (h : k ∉ rows.map (·.1)) : putK rows k v = rows ++ [(k, v)] := by
  unfold putK
  rw [if_neg]
  intro c
  obtain ⟨p, hp, e⟩ := List.any_eq_true.mp c
  exact h (List.mem_map.mpr ⟨p, hp, of_decide_eq_true e⟩)
/-- a dict of numbers, whatever they hold -/
def KeyV (H : Hp) (a : Addr) (ks : List Int) : Prop := ∃ rows : List (L2.Key × V), H a = some (.dK rows) ∧ rows.map (·.1) = ks.map Sum.inl
theorem KeyV.kp {p a : Addr} {H H' : Hp} {ks : List Int} (h : KeyV H a ks) (k : Kp p H H') : KeyV H' a ks := by
  obtain ⟨rows, h1, h2⟩ := h
  exact ⟨rows, k _ _ (.inr fun l e => by cases e) h1, h2⟩
theorem rows_upd {H : Hp} {a : Addr} {o u : HO} {rows : List (L2.Key × V)} {ps : Ptn} (e : H a = some u) (n : ∀ l, u ≠ .tup l) (h : Paired (RowV H) rows ps) : Paired (RowV (upd H a o)) rows ps := L2.Paired.mapP h fun _ _ ⟨e1, t, e2, z⟩ => ⟨e1, t, e2, by
  rw [upd_ne (fun q => by rw [q, e] at z; exact n _ (Option.some.inj z))]
  exact z⟩
theorem rows_keys {H : Hp} {rows : List (L2.Key × V)} {ps : Ptn} (h : Paired (RowV H) rows ps) : rows.map (·.1) = ps.map fun p => (Sum.inl ((p.1 : Nat) : Int) : L2.Key) := by
  induction h with
  | nil => rfl
  | cons r t ih => rw [List.map_cons, List.map_cons, ih, r.1]
end Af

set_option Elab.async false
set_option linter.all false
set_option maxRecDepth 100000
set_option maxHeartbeats 4000000
namespace Af
open PySem PySem.Spec PyProof.Rows L2
open Sem (wp)
/-! a display of a dict that begins with another one's entries: {**a, k: v, ..} -/
section
variable {prog : Program} {w : World} {K : Type} [DecidableEq K] {knd : KeyKind prog w K} {A : Around} {E : Value → Shared → Prop} {s : Shared}
theorem dictPut_eq (d : Addr) (h : Int) (key v : Value) : True := trivial
theorem wpAny_dictPut {d : Addr} {kvs : List (K × Value)} {k : K} {key v : Value} {Q : Unit → Shared → Prop} (hkey : knd.is k key = true) (hm : s.heap.DictOf knd d kvs)
    (hQ : ∀ h', h'.DictOf knd d (stored kvs k v) → Heap.SameBut d s.heap h' → Q () { s with heap := h' })
    (hsz : kvs.length ≤ sizeLine) :
    wpAny (model prog w) A (dictPut d (knd.hash k) key v) Q E s := by
  obtain ⟨o, es, ep, ho, hc, hd, hk, hp, hn⟩ := hm
  have hes : es.size ≤ sizeLine := by
    have e1 := hp.length
    have e2 : es.toList.length = es.size := by simp
    omega
  unfold dictPut
  refine wpAny_bind (wpAny_dictFind_of hkey ho hd hk ?_)
  have hidx : (es.findIdx? fun e => knd.is k e.key) = kvs.findIdx? fun kv => decide (kv.1 = k) := by
    rw [← hp.findIdx k]; obtain ⟨l⟩ := es; simp
  cases hi : es.findIdx? fun e => knd.is k e.key with
  | some i =>
    refine wpAny_updateDict ho hd (hQ _ ⟨_, _, ep, Heap.get?_update_self _ ho (Obj.isFreed_of_dict (Obj.data_mapDict hd _)),
      hc.mapDict _, Obj.data_mapDict hd _, hk.modify _ _, ?_, ?_⟩ (Heap.SameBut.update ..))
    · rw [stored, if_pos (any_of_findIdx_some (hidx ▸ hi))]
      have hl : (es.toList.findIdx? fun e => knd.is k e.key) = some i := by rw [← hi]; obtain ⟨l⟩ := es; simp
      have := hp.modify hn hl v
      obtain ⟨l⟩ := es
      simpa using this
    · rw [stored, if_pos (any_of_findIdx_some (hidx ▸ hi)), keys_map_store]; exact hn
  | none =>
    have hnot : k ∉ kvs.map (·.1) := not_mem_of_findIdx_none (hidx ▸ hi)
    have hany : ¬ (kvs.any fun kv => decide (kv.1 = k)) = true := by
      rw [List.any_eq_true]; rintro ⟨kv, hkv, he⟩
      exact hnot (List.mem_map.mpr ⟨kv, hkv, of_decide_eq_true he⟩)
    refine wpAny_updateDictKeys (hz := hes) ho hd (hQ _ ⟨_, _, ep + 1, Heap.get?_update_self _ ho (Obj.isFreed_of_dict (Obj.data_mapDictKeys hd _)),
      hc.mapDictKeys _, Obj.data_mapDictKeys hd _, hk.push hkey _, ?_, ?_⟩ (Heap.SameBut.update ..))
    · rw [stored, if_neg hany]
      have := hp.append hkey (knd.hash k) v
      obtain ⟨l⟩ := es
      simpa using this
    · rw [stored, if_neg hany, List.map_append, List.nodup_append]
      refine ⟨hn, by simp, ?_⟩
      intro a ha b hb
      simp only [List.map_cons, List.map_nil, List.mem_singleton] at hb
      subst hb
      exact fun e => hnot (e ▸ ha)
theorem wpAny_mergeMapping {d a : Addr} {kvs more : List (K × Value)} {Q : Unit → Shared → Prop} (hdo : d ≠ a) (hoS : (a == sysModules) = false)
    (hd : s.heap.DictOf knd d kvs) (ho : s.heap.DictOf knd a more)
    (hQ : ∀ h', h'.DictOf knd d (merged kvs more) → h'.DictOf knd a more → Heap.SameBut d s.heap h' → Q () { s with heap := h' })
    (hsz : kvs.length + more.length ≤ sizeLine) :
    wpAny (model prog w) A (mergeMapping d (.ref a) false) Q E s := by
  obtain ⟨od, esd, epd, hod, hcd, hdd, hkd, hpd, hnd⟩ := id hd
  obtain ⟨oo, eso, epo, hoo, hco, hdo', hko, hpo, hno⟩ := id ho
  have hlen : more.length = eso.size := by rw [← hpo.length]; simp
  unfold mergeMapping
  refine wpAny_bind (wpAny_isInstance ho.typeIs isSubtype_dict_dict ?_)
  simp only [if_true]
  refine wpAny_bind (wpAny_specialOf ho.typeIs F.slot_dict_iter.lookup (wpAny_bind (wpAny_pure ?_)))
  simp only [beq_self_eq_true]
  rw [if_neg (by rw [hoS]; exact Bool.false_ne_true)]
  have loop : wpAny (model prog w) A (do
      let l ← dictEntries a
      let epoch ← dictEpoch a
      forIn (List.range l.size) PUnit.unit fun i (_ : PUnit) => (do
          let l' ← dictEntries a
          match l'[i]? with
            | some e => do
              holding [e.key, e.val] (dictPut d e.hash e.key e.val)
              let ep' ← dictEpoch a
              if (ep' != epoch) = true then do
                  (unsupported "dict.changed-during-merge" : Sem PUnit)
                  pure (ForInStep.yield PUnit.unit)
                else pure (ForInStep.yield PUnit.unit)
            | _ => do
              (unsupported "dict.changed-during-merge" : Sem PUnit)
              pure (ForInStep.yield PUnit.unit) : Sem (ForInStep PUnit))
      pure ()) Q E s := by
    refine wpAny_bind (wpAny_dictEntries hoo hdo' ?_)
    refine wpAny_bind (wpAny_dictEpoch hoo hdo' ?_)
    refine wpAny_bind ?_
    rw [List.range_eq_range']
    refine wpAny_forIn_list _
      (fun rest _ s' => ∃ h' i, s' = { s with heap := h' } ∧ rest = List.range' i (eso.size - i) ∧ i ≤ eso.size ∧ h'.DictOf knd d (merged kvs (more.take i)) ∧ h'.get? a = some oo ∧ Heap.SameBut d s.heap h')
      _ ?_ ?_ _ _ ⟨s.heap, 0, rfl, by simp, Nat.zero_le _, by simpa [merged] using hd, hoo, Heap.SameBut.refl _ _⟩
    · rintro x rest b s' ⟨h', i, rfl, hr, hi, hd', hoo', hs'⟩
      have hlt : i < eso.size := by
        rcases Nat.lt_or_ge i eso.size with h | h
        · exact h
        · rw [Nat.sub_eq_zero_of_le h] at hr; simp at hr
      obtain ⟨rfl, hrest⟩ : x = i ∧ rest = List.range' (i + 1) (eso.size - (i + 1)) := by
        have e : eso.size - i = (eso.size - (i + 1)) + 1 := by omega
        rw [e, List.range'_succ] at hr
        injection hr with h1 h2
        exact ⟨h1, h2⟩
      refine wpAny_bind (wpAny_dictEntries hoo' hdo' ?_)
      rw [Array.getElem?_eq_getElem hlt]
      obtain ⟨kv, hkv⟩ : ∃ kv, more[x]? = some kv := ⟨more[x]'(by rw [hlen]; exact hlt), List.getElem?_eq_getElem _⟩
      obtain ⟨k, v⟩ := kv
      obtain ⟨hkey, hval⟩ := hpo.get? (e := eso[x]) (by simp [hlt]) hkv
      obtain ⟨k', hkey', hhash⟩ := hko eso[x] (Array.getElem_mem hlt)
      obtain rfl : k' = k := knd.inj _ _ _ hkey' hkey
      show wpAny _ _ (holding [eso[x].key, eso[x].val] (dictPut d eso[x].hash eso[x].key eso[x].val) >>= _) _ _ _
      rw [hhash, hval]
      have hmx : (merged kvs (more.take x)).length ≤ sizeLine := by
        have e1 := merged_length_le kvs (more.take x)
        have e2 : (more.take x).length ≤ more.length := by rw [List.length_take]; omega
        omega
      refine wpAny_bind (wpAny_holding (wpAny_dictPut hkey hd' (fun h'' hd'' hs'' => ?_) hmx))
      have hoo'' : h''.get? a = some oo := (hs''.2 a (Ne.symm hdo)).trans hoo'
      refine wpAny_bind (wpAny_dictEpoch hoo'' hdo' ?_)
      rw [if_neg (by simp)]
      exact wpAny_pure ⟨h'', x + 1, rfl, hrest, hlt, by rw [merged_take_succ kvs more x (k', v) hkv]; exact hd'', hoo'', hs'.trans hs''⟩
    · rintro b s' ⟨h', i, rfl, hr, hi, hd', hoo', hs'⟩
      have hin : i = eso.size := by
        rcases Nat.lt_or_ge i eso.size with h | h
        · have e : eso.size - i = (eso.size - (i + 1)) + 1 := by omega
          rw [e, List.range'_succ] at hr; exact nomatch hr
        · exact Nat.le_antisymm hi h
      refine wpAny_pure (hQ h' ?_ ⟨oo, eso, epo, hoo', hco, hdo', hko, hpo, hno⟩ hs')
      rw [hin, ← hlen, List.take_length] at hd'; exact hd'
  refine wpAny_bind (wpAny_dictEntries hod hdd ?_)
  split
  · refine wpAny_bind (wpAny_dictEntries hoo hdo' ?_)
    have h0 : (forIn eso PUnit.unit fun (e : DictEntry) (_ : PUnit) => (match e.key with
        | Value.ref a => do
          let q ← specialOf e.key (Str.ofString "__eq__")
          if (q != some (Value.builtin "object.__eq__")) = true then
              if (Array.filter (fun x => x.hash == e.hash) eso).size > 1 then do
                (unsupported "dict.merge-into-an-empty-dict:keys-of-equal-hash" : Sem PUnit)
                pure (ForInStep.yield PUnit.unit)
              else pure (ForInStep.yield PUnit.unit)
            else pure (ForInStep.yield PUnit.unit)
        | x => pure (ForInStep.yield PUnit.unit) : Sem (ForInStep PUnit))) = pure PUnit.unit := by
      rw [← Array.forIn_toList]
      refine forIn_yield_id _ fun e he c => ?_
      obtain ⟨k, hkey, _⟩ := hko e (Array.mem_toList_iff.mp he)
      have b := knd.byValue k _ hkey
      cases hk : e.key <;> first | rfl | (rw [hk] at b; cases b)
    exact wpAny_bind (wpAny_of_eq h0 loop)
  · exact loop
theorem forIn_gatherM (main : Option Addr) (f : (Option (Sem Value) × Sem Value) → (Option Addr × List (Sem Value × Sem Value)) → Sem (ForInStep (Option Addr × List (Sem Value × Sem Value))))
    (hf : ∀ (p : Sem Value × Sem Value) (run : List (Sem Value × Sem Value)), run.length + 1 < 17 → f (some p.1, p.2) (main, run) = pure (.yield (main, run ++ [p]))) :
    ∀ (items run : List (Sem Value × Sem Value)), run.length + items.length < 17 → forIn (items.map fun p => (some p.1, p.2)) (main, run) f = pure (main, run ++ items)
  | [], run, _ => by simp
  | p :: rest, run, h => by
    rw [List.map_cons, List.forIn_cons, hf p run (by simp at h; omega), pure_bind]
    have := forIn_gatherM main f hf rest (run ++ [p]) (by simp at h ⊢; omega)
    simpa using this
theorem wpAny_no {α : Type} {m : Sem α} {Q : α → Shared → Prop} {E' : Value → Shared → Prop} (h : wpAny (model prog w) A m Q (fun _ _ => False) s) : wpAny (model prog w) A m Q E' s := wpAny_mono h (fun _ _ x => x) fun _ _ x => x.elim
theorem wpAny_spread {m : Sem Value} {pairs : List (Sem Value × Sem Value)} {Q : Value → Shared → Prop} (h0 : pairs ≠ []) (hlen : pairs.length ≤ 15)
    (h : wpAny (model prog w) A m (fun v s1 => wpAny (model prog w) A (mergeMapping s.heap.objs.size v false) (fun _ s2 => wpAny (model prog w) A (subDict pairs) (fun sub s3 =>
      wpAny (model prog w) A (mergeMapping s.heap.objs.size (.ref sub) false) (fun _ s4 => Q (.ref s.heap.objs.size) s4) (fun _ _ => False) s3) E s2) (fun _ _ => False) s1) E
      { s with heap := s.heap.push { cls := .type "dict", data := .dict #[] } }) :
    wpAny (model prog w) A (dictDisplay ((none, m) :: pairs.map fun p => (some p.1, p.2))) Q E s := by
  unfold dictDisplay
  dsimp only
  rw [List.forIn_cons]
  simp only [List.isEmpty_nil, if_true, pure_bind]
  refine wpAny_bind (wpAny_bind (wpAny_bind (wpAny_alloc ?_)))
  refine wpAny_bind (wpAny_holding (wpAny_mono h (fun v s1 h1 => ?_) fun _ _ e => e))
  refine wpAny_bind (wpAny_onRaise (wpAny_tryCatch (wpAny_onRaise (wpAny_holding (wpAny_mono h1 (fun _ s2 h2 => ?_) fun _ _ x => x.elim)))))
  refine wpAny_pure ?_
  simp only []
  rw [forIn_gatherM (some s.heap.objs.size) _ (fun p run h => by
    have hne : ((run ++ [(p.1, p.2)]).length == 17) = false := by simp; omega
    simp only [hne, Bool.false_eq_true, if_false]) pairs [] (by simp; omega)]
  refine wpAny_pure ?_
  simp only [List.nil_append]
  have he : pairs.isEmpty = false := by
    cases pairs with
    | nil => exact absurd rfl h0
    | cons a b => rfl
  simp only [he, Bool.false_eq_true, if_false]
  refine wpAny_bind (wpAny_bind (wpAny_holding (wpAny_mono h2 (fun sub s3 h3 => ?_) fun _ _ e => e)))
  refine wpAny_bind (wpAny_onRaise (wpAny_holding (wpAny_mono h3 (fun _ s4 h4 => ?_) fun _ _ x => x.elim)))
  exact wpAny_pure (wpAny_pure h4)
end
/-- {**a, k: v, ..}: the new dict stands empty, then with a's entries, while the pairs are made -/
def tSpread (te : TE) (trs : List (TE × TE)) : TE := fun σ H Q => ∀ p, H p = none → te σ (upd H p (.dK [])) fun x H1 => ∃ a kvs, x = .ref a ∧ a ≠ p ∧ H1 a = some (.dK kvs) ∧ H1 p = some (.dK []) ∧ kvs.length ≤ 1000 ∧
  ∀ p2, H1 p2 = none → tPairs trs σ (upd (upd H1 p (.dK kvs)) p2 (.dK [])) fun ps H2 => H2 p = some (.dK kvs) ∧ H2 p2 = some (.dK []) ∧ ∃ kvs2 : List (Key × V), ps = kvs2.map (fun kv => (kV kv.1, kv.2)) ∧ kvs2.length ≤ 15 ∧
    Q (.ref p) (upd (upd H2 p2 (.dK (mergeK [] kvs2))) p (.dK (mergeK kvs (mergeK [] kvs2))))
theorem pe_spread {X : Cx} {pos : Pos} {e : Expr} {keys : List (Option Expr)} {values : List Expr} {te : TE} {trs : List (TE × TE)} (he : PE X e te) (h : PPs X pos keys values trs) (hall : keys.all (·.isSome) = true) (hl : keys.length = values.length) (h0 : keys ≠ [])
    (h15 : keys.length ≤ 15) : PE X (.Dict (none :: keys) (e :: values) pos) (tSpread te trs) := by
  refine ⟨fun pins s σ H Q I q => ?_⟩
  have hn := I.hok.fresh (Nat.le_refl s.heap.objs.size)
  have I1 := I.laid (a := s.heap.objs.size) (o := .dK []) (h' := s.heap.push { cls := .type "dict", data := .dict #[] }) (t' := s.toks) (fun _ _ q => Heap.get?_push_of_some _ q) (Nat.le_refl _) (dk_empty s.heap I.big)
  rw [arm_eval_Dict]
  refine wpAny_bind (wpAny_standAt ?_)
  have hz : (evalEachOpt (none :: keys) X.env).zip ((evalEach (e :: values) X.env).map fun v => do let x ← v; standAt pos; pure x) = (none, do let x ← eval e X.env; standAt pos; pure x) :: (pairTrees keys values X.env pos).map fun p => (some p.1, p.2) := by
    rw [← zip_pairTrees keys values X.env pos hall hl]
    rfl
  rw [hz]
  have hpl := pairTrees_length keys values X.env pos hall hl
  refine wpAny_spread (by intro z; rw [z] at hpl; exact h0 (List.length_eq_zero_iff.mp hpl.symm)) (by rw [hpl]; exact h15) ?_
  refine wpAny_bind (thn (he.run pins _ σ _ _ I1 (q _ hn)) fun v s1 ⟨x, H1, I2, rx, a, kvs, ex, nap, ha, hp, lk, q2⟩ => wpAny_bind (wpAny_standAt (wpAny_pure ?_)))
  subst ex
  cases rx
  obtain ⟨z, hd, vs, rel, dd⟩ := dk_of I2.hok ha
  obtain ⟨_, hd0, vs0, r0, dd0⟩ := dk_of I2.hok hp
  cases r0
  refine wpAny_mergeMapping (kvs := []) (more := vs) (fun e => nap e.symm) hd dd0 dd (fun h' dd' _ hs => ?_) (by rw [← rel.length, sizeLine_eq, List.length_nil]; omega)
  have hno : (vs.map (·.1)).Nodup := let ⟨_, _, _, _, _, _, _, _, hn⟩ := dd; hn
  rw [merged_nil_of_nodup vs hno] at dd'
  have he1 : ∃ q, h'.get? s.heap.objs.size = some q := let ⟨q, _, _, hq, _⟩ := dd'; ⟨q, hq⟩
  have I3 := d_write (t' := s1.toks) I2 (by rw [hp]; exact True.intro) hs he1 (dk_new z hd0 rel dd')
  have hn2 := I3.hok.fresh (Nat.le_refl h'.objs.size)
  have np2 : h'.objs.size ≠ s.heap.objs.size := fun e => by
    rw [e, upd_same] at hn2
    cases hn2
  rw [upd_ne np2] at hn2
  have I4 := I3.laid (a := h'.objs.size) (o := .dK []) (h' := h'.push { cls := .type "dict", data := .dict #[] }) (t' := s1.toks) (fun _ _ q => Heap.get?_push_of_some _ q) (Nat.le_refl _) (dk_empty h' I3.big)
  refine wpAny_subDict (knd := mixKind X.prog X.w) (by rw [hpl]; exact h15) (thn (h.run pins _ σ _ _ I4 (q2 _ hn2)) fun ws s2 ⟨ps, H2, I5, rel2, e1, e2, kvs2, ep, lk2, q3⟩ => ?_)
  subst ep
  obtain ⟨rs, c, rk⟩ := carries_of (P := X.prog) (w := X.w) rel2
  obtain ⟨z2, hd2, vs2, r2, dd2⟩ := dk_of I5.hok e2
  cases r2
  refine ⟨rs, c, dd2, fun h2 dd3 hs2 => ?_⟩
  have hz2 : (mergeK [] kvs2).length ≤ sizeLine := by
    have h1 := length_mergeK kvs2 []
    rw [List.length_nil] at h1
    rw [sizeLine_eq]; omega
  have he2 : ∃ q, h2.get? h'.objs.size = some q := let ⟨q, _, _, hq, _⟩ := dd3; ⟨q, hq⟩
  have I6 := d_write (t' := s2.toks + ws.length) I5 (by rw [e2]; exact True.intro) hs2 he2 (dk_new hz2 hd2 (rk.merge .nil) dd3)
  have e3 : (upd H2 h'.objs.size (.dK (mergeK [] kvs2))) s.heap.objs.size = some (.dK kvs) := by rw [upd_ne (Ne.symm np2)]; exact e1
  have e4 : (upd H2 h'.objs.size (.dK (mergeK [] kvs2))) h'.objs.size = some (.dK (mergeK [] kvs2)) := upd_same
  obtain ⟨z5, hd5, vs5, r5, dd5⟩ := dk_of I6.hok e3
  obtain ⟨z6, hd6, vs6, r6, dd6⟩ := dk_of I6.hok e4
  refine wpAny_mergeMapping (kvs := vs5) (more := vs6) (Ne.symm np2) hd6 dd5 dd6 (fun h3 dd7 _ hs3 => ?_) ?_
  · have hz3 : (mergeK kvs (mergeK [] kvs2)).length ≤ sizeLine := by
      have h1 := length_mergeK kvs2 []
      have h2 := length_mergeK (mergeK [] kvs2) kvs
      rw [List.length_nil] at h1
      rw [sizeLine_eq]; omega
    have he3 : ∃ q, h3.get? s.heap.objs.size = some q := let ⟨q, _, _, hq, _⟩ := dd7; ⟨q, hq⟩
    exact ⟨.ref s.heap.objs.size, _, d_write (t' := s2.toks + ws.length) I6 (by rw [e3]; exact True.intro) hs3 he3 (dk_new hz3 hd5 (r6.merge r5) dd7), rfl, q3⟩
  · rw [← r5.length, ← r6.length]
    have h1 := length_mergeK kvs2 []
    rw [List.length_nil] at h1
    rw [sizeLine_eq]; omega
end Af

set_option Elab.async false
set_option linter.all false
set_option maxRecDepth 100000
set_option maxHeartbeats 4000000
/-! sorted(xs), xs a list of pairs that begin with a number, all numbers different -/
namespace Af
open PySem PySem.Spec PyProof.Rows L2 Srt SrtO
section
variable {prog : Program} {w : World} {A : Around} {E : Value → Shared → Prop} {s : Shared}
def IsKp (h : Heap) (v : Value) (x : Int) : Prop := ∃ a o t b n, v = .ref a ∧ h.get? a = some o ∧ o.cls = .type "tuple" ∧ o.data = .seq #[.int x t, .ref b] n
theorem IsKp.keeps {h h' : Heap} {v : Value} {x : Int} (p : IsKp h v x) (k : ∀ b o, h.get? b = some o → o.cls = .type "tuple" → h'.get? b = some o) : IsKp h' v x := by
  obtain ⟨a, o, t, b, n, e, ho, hc, hd⟩ := p
  exact ⟨a, o, t, b, n, e, k _ _ ho hc, hc, hd⟩
theorem kfirsts {h : Heap} : ∀ {vs : List Value}, (∀ v ∈ vs, ∃ x, IsKp h v x) → ∃ fs : List Value, PySem.W.KatTups h vs fs ∧ fs.length = vs.length ∧ ∀ f ∈ fs, ∃ x t, f = Value.int x t
  | [], _ => ⟨[], PySem.W.KatTups.nil, rfl, fun _ hm => by simp at hm⟩
  | v :: vs, hp => by
    obtain ⟨fs, h1, h2, h3⟩ := kfirsts (vs := vs) fun v' hm => hp v' (List.mem_cons_of_mem _ hm)
    obtain ⟨x, a, o, t, b, n, e, ho, hc, hd⟩ := hp v (List.mem_cons_self ..)
    subst e
    refine ⟨.int x t :: fs, PySem.W.KatTups.cons ho hc hd rfl h1, by rw [List.length_cons, List.length_cons, h2], fun f hm => ?_⟩
    rcases List.mem_cons.mp hm with rfl | hm
    · exact ⟨x, t, rfl⟩
    · exact h3 f hm
theorem swo_k (k : Value → Int) : Swo fun v u => decide (k v < k u) := by
  refine ⟨fun x y h => ?_, fun x y z h1 h2 => ?_⟩
  · have a := of_decide_eq_true h
    exact decide_eq_false (by omega)
  · have a := of_decide_eq_false h1
    have b := of_decide_eq_false h2
    exact decide_eq_false (by omega)
theorem kp_cmp {vs : List Value} {k : Value → Int} (hp : ∀ v ∈ vs, IsKp s.heap v (k v)) (df : ∀ v ∈ vs, ∀ u ∈ vs, k v = k u → v = u) : Cmp prog w A s (tuples' true) (fun p => p.1 ∈ vs) (lt2 fun v u => decide (k v < k u)) := by
  intro p q hm hm'
  have h1 := hp _ hm
  have h2 := hp _ hm'
  have h3 := df _ hm _ hm'
  show wpAny (model prog w) A (keyLt' (tuples' true) p.1 q.1) (fun r s' => s' = s ∧ r = decide (k p.1 < k q.1)) (fun _ _ => False) s
  generalize k p.1 = x at h1 h3 ⊢
  generalize k q.1 = x' at h2 h3 ⊢
  obtain ⟨a, o, t, b, n, e, ho, hc, hd⟩ := h1
  obtain ⟨a', o', t', b', n', e', ho', hc', hd'⟩ := h2
  rw [e, e'] at h3 ⊢
  refine PySem.W.kat_lt ho hd ho' hd' ?_
  show PySem.W.KatLex prog w A true (decide (2 < 2)) _ [(.int x t, .int x' t'), (.ref b, .ref b')] 0 s
  refine PySem.W.kat_cons (SeqAt.EqAt.int_int x t x' t' prog w _ _ ?_)
  refine PySem.W.kat_go (fun e1 => ?_) (fun e1 => ?_)
  · have ex : x = x' := by simpa using e1
    have ea : a = a' := Value.ref.inj (h3 ex)
    subst ea
    rw [ho] at ho'
    cases ho'
    rw [hd] at hd'
    have eb : b = b' := by
      injection hd' with q1 q2
      have := congrArg Array.toList q1
      simp at this
      exact this.2
    subst eb
    refine PySem.W.kat_yes (PySem.W.kat_cons (SeqAt.EqAt.same (.ref b) prog w _ _ ?_))
    refine PySem.W.kat_go (fun e2 => ?_) (fun e2 => ?_)
    · exact PySem.W.kat_yes (PySem.W.kat_nil ⟨rfl, by rw [ex]; exact (decide_eq_false (Int.lt_irrefl _)).symm⟩)
    · cases e2
  · exact PySem.W.kat_no (oneLt_int ⟨rfl, rfl⟩)
theorem kp_sortable {a : Addr} {vs : List Value} {k : Value → Int} (h0 : 0 < vs.length) (hp : ∀ v ∈ vs, IsKp s.heap v (k v)) (df : ∀ v ∈ vs, ∀ u ∈ vs, k v = k u → v = u) (ha : ∀ o, s.heap.get? a = some o → o.cls ≠ .type "tuple") : SortableO prog w A s a vs fun v u => decide (k v < k u) := by
  intro h' keep
  have hp' : ∀ v ∈ vs, IsKp h' v (k v) := fun v hm => (hp v hm).keeps fun b o e c => keep b o (fun z => by subst z; exact ha o e c) e
  obtain ⟨fs, h1, h2, h3⟩ := kfirsts fun v hm => ⟨_, hp' v hm⟩
  refine ⟨tuples' true, fun Q E hq => ?_, kp_cmp hp' df⟩
  refine PySem.W.kat_kind (T := .type "int") h1 (by omega) (fun f hm => ?_) (by rfl) ?_
  · obtain ⟨x, t, rfl⟩ := h3 f hm
    exact PySem.W.Looks.now
  · have e : (Value.type "int" != Value.type "tuple") = true := by first | decide +kernel | rfl | decide
    rw [e]
    exact hq
theorem sorted_kp {l : Addr} {vs : List Value} {k : Value → Int} {Q : Value → Shared → Prop} (hl : s.heap.IsList l vs.toArray) (hz : vs.length ≤ sizeLine) (hp : ∀ v ∈ vs, IsKp s.heap v (k v)) (df : ∀ v ∈ vs, ∀ u ∈ vs, k v = k u → v = u)
    (h : ∀ (h' : Heap) (d : Addr) (out : List Value), Srtd (fun v u => decide (k v < k u)) out → Stb (fun v u => decide (k v < k u)) out vs → (∀ b o, s.heap.get? b = some o → h'.get? b = some o) → s.heap.objs.size ≤ d → (∃ n, h'.get? d = some (seqObj "list" out.toArray n)) → Q (.ref d) { s with heap := h' }) :
    wpAny (model prog w) A (call (.builtin "sorted") [.ref l]) Q E s := by
  refine sorted_ord (swo_k k) hl hz (fun h2 h₁ a ha kk => ?_) fun out hs hb => ?_
  · refine kp_sortable (s := { s with heap := h₁ }) (by omega) (fun v hm => (hp v hm).keeps fun b o e _ => (kk b o e).2) df fun o e => ?_
    have e' : some o = some (seqObj "list" vs.toArray 0) := e.symm.trans ha
    cases e'
    intro c
    exact absurd (Value.type.inj c) (by decide)
  · exact h _ _ out hs hb (fun b o e => sortedAll_old e) (Nat.le_succ _) (sortedAll_at s.heap vs out.toArray)
end
/-- sorted(xs), xs a list of pairs that begin with different numbers (k says which): a new list of the same, ascending -/
def rSortedKP (K : PySem.W.Frag) : List V → Hp → VK → Prop := fun vs H Q => ∃ (a : Addr) (xs : List V) (k : V → Int), vs = [V.ref a] ∧ SqL K H a xs ∧ (∀ x ∈ xs, ∃ t b, x = V.ref t ∧ H t = some (.tup [.int (k x), .ref b])) ∧ (∀ x ∈ xs, ∀ y ∈ xs, k x = k y → x = y) ∧
  ∀ (ys : List V) p, ys.Perm xs → ys.Pairwise (fun x y => k x ≤ k y) → H p = none → Q (.ref p) (upd H p (.lst ys))
section
variable {X : Cx}
theorem cr_sortedKP : CallR X (.builtin "sorted") (rSortedKP X.K) := by
  intro pins s σ H vs us Q I r h
  obtain ⟨a, xs, k, rfl, hs, hx, df, q⟩ := h
  obtain ⟨its, rv, hl, hz⟩ := I.list hs
  obtain ⟨u, rfl, ru⟩ := vals1 r
  obtain rfl : u = Value.ref a := ru
  obtain ⟨e1, e2⟩ := refs_back rv fun x m => by
    obtain ⟨t, b, e, _⟩ := hx x m
    exact ⟨t, e⟩
  have back : ∀ v ∈ its, ∃ t, v = Value.ref t ∧ backV v = V.ref t ∧ V.ref t ∈ xs := fun v hv => by
    obtain ⟨t, rfl⟩ := e2 v hv
    exact ⟨t, rfl, rfl, by rw [e1]; exact List.mem_map.mpr ⟨_, hv, rfl⟩⟩
  refine sorted_kp (k := fun u => k (backV u)) hl.isList (by rw [← rv.length]; exact hz) (fun v hv => ?_) (fun v hv u hu e => ?_) fun h' d out h1 h2 kp hd hn => ?_
  · obtain ⟨t, rfl, eb, hm⟩ := back v hv
    obtain ⟨t', b, e, ht⟩ := hx _ hm
    cases e
    obtain ⟨_, its2, r2, o, ho, hc, n, hd⟩ := I.hok _ _ ht
    obtain ⟨u1, u2, rfl, ri, rj⟩ := vals2 r2
    obtain ⟨t1, rfl⟩ := ri
    cases rj
    exact ⟨t, o, t1, b, n, rfl, ho, hc, hd⟩
  · obtain ⟨t, rfl, eb, hm⟩ := back v hv
    obtain ⟨t', rfl, eb', hm'⟩ := back u hu
    rw [eb, eb'] at e
    have := df _ hm _ hm' e
    injection this with this
    rw [this]
  · have h3 : ∀ u ∈ out, ∃ a, u = Value.ref a := fun u hu => e2 u (h2.perm.mem_iff.mp hu)
    obtain ⟨n, hn⟩ := hn
    have hp : (out.map backV).Perm xs := by
      rw [e1]
      exact h2.perm.map backV
    refine ⟨.ref d, upd H d (.lst (out.map backV)), I.laid (t' := s.toks) kp hd ⟨?_, out, n, vals_back h3, hn⟩, rfl, q _ d hp ?_ (I.hok.fresh hd)⟩
    · rw [hp.length_eq]
      exact hz
    · rw [List.pairwise_map]
      refine List.Pairwise.imp (fun {u v} huv => ?_) h1
      have := of_decide_eq_false huv
      omega
end
end Af

set_option Elab.async false
set_option linter.all false
set_option maxRecDepth 100000
set_option maxHeartbeats 4000000
/-! a walk over zip(xs, t), xs a list and t a tuple -/
namespace Af
open PySem PySem.Spec PyProof.Rows L2
def ItzM (K : PySem.W.Frag) (a b : Addr) : It where
  go := fun i H => ∃ (xs ys : List V) (x y : V), SqL K H a xs ∧ SqT K H b ys ∧ xs[i]? = some x ∧ ys[i]? = some y
  yld := fun i H v H' => ∃ T x y, v = .ref T ∧ H T = none ∧ H' = upd H T (.tup [x, y]) ∧ (∀ xs, SqL K H a xs → xs[i]? = some x) ∧ ∀ ys, SqT K H b ys → ys[i]? = some y
  stop := fun i H => ∃ xs ys : List V, SqL K H a xs ∧ SqT K H b ys ∧ i = min xs.length ys.length
def ZmAt (z TI TO i1 i2 l t : Addr) (i : Nat) (h : Heap) : Prop := IsZip h z TI TO .none ∧ IsTupOf2 h TI (.ref i1) (.ref i2) ∧ (∃ a1 a2, IsTupOf2 h TO a1 a2) ∧ h.IsListIter i1 l i ∧ h.IsTupleIter i2 t i
theorem zm_sep {N l t : Addr} (hl : l < N) (ht : t < N) : ZipSep2 (N + 4) (N + 2) (N + 3) N (N + 1) [N, l] [N + 1, t] := by
  have h1 : l ≠ N + 4 ∧ l ≠ N + 3 ∧ l ≠ N + 1 := ⟨Nat.ne_of_lt (Nat.lt_add_right 4 hl), Nat.ne_of_lt (Nat.lt_add_right 3 hl), Nat.ne_of_lt (Nat.lt_add_right 1 hl)⟩
  have h2 : t ≠ N + 4 ∧ t ≠ N + 3 ∧ t ≠ N := ⟨Nat.ne_of_lt (Nat.lt_add_right 4 ht), Nat.ne_of_lt (Nat.lt_add_right 3 ht), Nat.ne_of_lt ht⟩
  have p : ∀ j k : Nat, j ≠ k → (N + j : Nat) ≠ N + k := fun j k n e => n (Nat.add_left_cancel e)
  have q : ∀ j : Nat, j ≠ 0 → (N + j : Nat) ≠ N := fun j n e => n (Nat.add_left_cancel (e.trans (Nat.add_zero N).symm))
  refine ⟨p 2 4 (by decide), p 3 4 (by decide), p 2 3 (by decide), q 2 (by decide), List.mem_cons_self, ?_, ?_, p 2 1 (by decide), List.mem_cons_self, ?_, ?_, ?_, ?_⟩
  · exact fun m => by
      rcases List.mem_cons.mp m with e | m
      · exact q 4 (by decide) e
      · exact h1.1 (List.mem_singleton.mp m).symm
  · exact fun m => by
      rcases List.mem_cons.mp m with e | m
      · exact q 3 (by decide) e
      · exact h1.2.1 (List.mem_singleton.mp m).symm
  · exact fun m => by
      rcases List.mem_cons.mp m with e | m
      · exact p 4 1 (by decide) e
      · exact h2.1 (List.mem_singleton.mp m).symm
  · exact fun m => by
      rcases List.mem_cons.mp m with e | m
      · exact p 3 1 (by decide) e
      · exact h2.2.1 (List.mem_singleton.mp m).symm
  · exact fun m => by
      rcases List.mem_cons.mp m with e | m
      · exact q 1 (by decide) e.symm
      · exact h2.2.2 (List.mem_singleton.mp m).symm
  · exact fun m => by
      rcases List.mem_cons.mp m with e | m
      · exact q 1 (by decide) e
      · exact h1.2.2 (List.mem_singleton.mp m).symm
theorem zm_turn {P : Program} {w : World} {K : PySem.W.Frag} {elts : List Expr} {kk : Nat} {tpos : Pos} {a b z TI TO i1 i2 : Addr} (S : ZipSep2 z TI TO i1 i2 [i1, a] [i2, b]) (na : a ≠ i1) (nb : b ≠ i2) :
    Turn P w K (.Tuple elts kk tpos) (ItzM K a b) [z, TI, TO, i1, i2] z (ZmAt z TI TO i1 i2 a b) where
  mem := List.mem_cons_self
  obj := fun i h st c hc => by
    obtain ⟨hz, hI, ⟨x, y, hO⟩, ⟨o1, e1, c1, d1⟩, ⟨o2, e2, c2, d2⟩⟩ := st
    simp only [List.mem_cons, List.not_mem_nil, or_false] at hc
    rcases hc with rfl | rfl | rfl | rfl | rfl
    · exact ⟨_, hz, fun v q => by cases q⟩
    · exact ⟨_, hI, fun v q => by cases q⟩
    · exact ⟨_, hO, fun v q => by cases q⟩
    · exact ⟨_, e1, fun v q => by rw [d1] at q; cases q⟩
    · exact ⟨_, e2, fun v q => by rw [d2] at q; cases q⟩
  keep := fun i h h' st k => by
    obtain ⟨hz, hI, ⟨x, y, hO⟩, h1, h2⟩ := st
    refine ⟨k z ?_ _ hz, k TI ?_ _ hI, ⟨x, y, k TO ?_ _ hO⟩, h1.at fun o q => k i1 ?_ o q, h2.at fun o q => k i2 ?_ o q⟩ <;> simp
  item := by
    intro X hP hw hK hc i pins s σ H E I hf st hg
    subst hP hw hK
    obtain ⟨hz, hI, hO, h1, h2⟩ := st
    obtain ⟨xs, ys, x, y, hqx, hqy, hx, hy⟩ := hg
    obtain ⟨its, rv, p, _⟩ := I.list hqx
    obtain ⟨its2, rv2, p2, _⟩ := I.tuple hqy
    have hh : X.A.in1.handled = none := I.ok.hd hc
    have W := GoesN.zip2 (prog := X.prog) (w := X.w) (A := X.A) (elts := elts) (x1 := kk) (pos := tpos) S (Draws.list hh i1 a na its.toArray) (Draws.tuple hh i2 b nb its2.toArray)
    have lx : i < its.length := by rw [← rv.length]; exact (List.getElem?_eq_some_iff.mp hx).1
    have ly : i < its2.length := by rw [← rv2.length]; exact (List.getElem?_eq_some_iff.mp hy).1
    have hi : i < min its.toArray.size its2.toArray.size := Nat.lt_min.mpr ⟨lx, ly⟩
    refine W.goes i s (fun u s2 => ∃ v H', Inv X pins σ H' s2 ∧ RelV v u ∧ (ItzM X.K a b).yld i H v H' ∧ ZmAt z TI TO i1 i2 a b (i + 1) s2.heap ∧ ∀ c ∈ [z, TI, TO, i1, i2], H' c = none) E hi ⟨hz, hI, hO, ⟨h1, p.isList⟩, ⟨h2, p2⟩⟩ fun v h' tk yv st' ko htk => ?_
    obtain ⟨T, u1, u2, rfl, hT, e1, e2, hTt⟩ := yv
    obtain ⟨hz', hI', hO', h1', h2'⟩ := st'
    obtain ⟨q1, g1, r1⟩ := rv.get hx
    obtain ⟨q2, g2, r2⟩ := rv2.get hy
    have f1 : q1 = u1 := by
      have : its[i]? = some u1 := by simpa using e1
      rw [g1] at this
      exact Option.some.inj this
    have f2 : q2 = u2 := by
      have : its2[i]? = some u2 := by simpa using e2
      rw [g2] at this
      exact Option.some.inj this
    subst f1 f2
    have new : ObjOk X.prog X.w (upd H T (.tup [x, y])) h' T (.tup [x, y]) := ⟨by show 2 ≤ sizeLine; decide, [q1, q2], .cons r1 (.cons r2 .nil), hTt⟩
    have I1 : Inv X pins σ (upd H T (.tup [x, y])) { s with heap := h', toks := tk } := I.turnedNew (t' := tk) (ch := [z, TI, TO, i1, i2]) (fun c o hb q => ko c o (fun m => hb (by
      simp only [List.mem_cons, List.not_mem_nil, or_false] at m ⊢
      rcases m with m | m | m | m
      · exact .inl m
      · exact .inr (.inr (.inl m))
      · exact .inr (.inr (.inr (.inl m)))
      · exact .inr (.inr (.inr (.inr m))))) q) hf hT new
    refine ⟨.ref T, _, I1, rfl, ⟨T, x, y, rfl, I.hok.fresh hT, rfl, fun l hl => by rw [I.list_inj hl hqx]; exact hx, fun l hl => by rw [I.tuple_inj hl hqy]; exact hy⟩, ⟨hz', hI', hO', h1'.1, h2'.1⟩, fun c hcm => ?_⟩
    have hl : c < s.heap.objs.size := by
      obtain ⟨_, _, hO0⟩ := hO
      obtain ⟨_, y1, _⟩ := h1
      obtain ⟨_, y2, _⟩ := h2
      simp only [List.mem_cons, List.not_mem_nil, or_false] at hcm
      rcases hcm with rfl | rfl | rfl | rfl | rfl
      · exact Heap.lt_size hz
      · exact Heap.lt_size hI
      · exact Heap.lt_size hO0
      · exact Heap.lt_size y1
      · exact Heap.lt_size y2
    rw [upd_ne (Nat.ne_of_lt (Nat.lt_of_lt_of_le hl hT))]
    exact (hf c hcm).1
  done := by
    intro X hP hw hK hc i pins s σ H E I hf st hg
    subst hP hw hK
    obtain ⟨hz, hI, hO, h1, h2⟩ := st
    obtain ⟨xs, ys, hqx, hqy, hi⟩ := hg
    obtain ⟨its, rv, p, _⟩ := I.list hqx
    obtain ⟨its2, rv2, p2, _⟩ := I.tuple hqy
    have hh : X.A.in1.handled = none := I.ok.hd hc
    have W := GoesN.zip2 (prog := X.prog) (w := X.w) (A := X.A) (elts := elts) (x1 := kk) (pos := tpos) S (Draws.list hh i1 a na its.toArray) (Draws.tuple hh i2 b nb its2.toArray)
    have hi' : i = min its.toArray.size its2.toArray.size := by rw [hi, rv.length, rv2.length]; rfl
    subst hi'
    refine W.stops s (fun s1 => Inv X pins σ H s1) E ⟨hz, hI, hO, ⟨h1, p.isList⟩, ⟨h2, p2⟩⟩ fun h' tk ko htk => ?_
    exact I.turnedL (t' := tk) (ch := [z, TI, TO, i1, i2]) (fun c o hb q => ko c o (fun m => hb (by
      simp only [List.mem_cons, List.not_mem_nil, or_false] at m ⊢
      rcases m with m | m | m | m
      · exact .inl m
      · exact .inr (.inr (.inl m))
      · exact .inr (.inr (.inr (.inl m)))
      · exact .inr (.inr (.inr (.inr m))))) q) hf
  self := fun A i s Q E st h => wpAny_pyIter_zip st.1 h
def iZipM (K : PySem.W.Frag) (ta : TA) : TI := fun σ H R => ta σ H fun vs H1 => ∃ a b xs ys, vs = [.ref a, .ref b] ∧ SqL K H1 a xs ∧ SqT K H1 b ys ∧ R (ItzM K a b) H1
theorem pi_zipM {X : Cx} {e e2 : Expr} {ta : TA} {p pos tpos : Pos} {elts : List Expr} {kk : Nat} (hg : Gl X "zip") (hm : X.mg "zip" = none) (ha : PA X [e, e2] ta)
    (hs : starEach [e, e2] X.env = (false, eval e X.env) :: starEach [e2] X.env := by rfl) (hpl : (backTo pos (starEach [e2] X.env)).any (·.1) = false := by rfl) :
    PI X (.Tuple elts kk tpos) (.Call (.Name "zip" p) [e, e2] [] pos) (iZipM X.K ta) := by
  refine ⟨fun pins s σ H R I h => Call_ (ld_blt I hg hm PyProof.Rows.boot_zip (PyProof.Rows.callWith_type1 (thn (ha.run pos pins s σ H _ I h) fun us s1 ⟨vs, H1, I1, r1, a, b, xs, ys, ex, hqx, hqy, q⟩ => ?_) hs hpl))⟩
  subst ex
  obtain ⟨u1, u2, rfl, ra, rb⟩ := vals2 r1
  cases ra
  cases rb
  obtain ⟨its, rv, p1, _⟩ := I1.list hqx
  obtain ⟨its2, rv2, p2, _⟩ := I1.tuple hqy
  obtain ⟨o2, ho2, _⟩ := id p2
  have la : a < s1.heap.objs.size := p1.lt
  have lb : b < s1.heap.objs.size := Heap.lt_size ho2
  refine zip_begins2 (begins_list a its.toArray) (begins_tuple b its2.toArray) p1.isList p2 fun h' hz hI hO h1 h2 hsz hk => wpAny_pyIter_zip hz ?_
  have I2 : Inv X pins σ H1 { s1 with heap := h' } := I1.kept (t' := s1.toks) hk
  have S := zm_sep la lb
  refine ⟨s1.heap.objs.size + 4, [s1.heap.objs.size + 4, s1.heap.objs.size + 2, s1.heap.objs.size + 3, s1.heap.objs.size, s1.heap.objs.size + 1], _, _, H1, rfl, I2, zm_turn S (Nat.ne_of_lt la) (Nat.ne_of_lt (Nat.lt_add_right 1 lb)), ⟨hz, hI, ⟨_, _, hO⟩, ⟨_, h1, rfl, rfl⟩, ⟨_, h2, rfl, rfl⟩⟩, fun c hcm => ?_, q⟩
  have hle : s1.heap.objs.size ≤ c := by
    simp only [List.mem_cons, List.not_mem_nil, or_false] at hcm
    rcases hcm with rfl | rfl | rfl | rfl | rfl
    · exact Nat.le_add_right _ _
    · exact Nat.le_add_right _ _
    · exact Nat.le_add_right _ _
    · exact Nat.le_refl _
    · exact Nat.le_add_right _ _
  exact I1.fpOk hle (I1.hok.fresh hle)
/-- a loop over it -/
theorem for_zipM {K : PySem.W.Frag} {a b : Addr} {xs ys : List V} {g : TG} {tb : TS} {D : Ends} {σ : L2.St} {H : Hp} (hl : xs.length = ys.length) (Pv : Nat → L2.St → Hp → Prop) (h0 : Pv 0 σ H) (hq : ∀ i σ H, Pv i σ H → SqL K H a xs ∧ SqT K H b ys)
    (hs : ∀ (i : Nat) (x y : V) (T : Addr) (σ : L2.St) (H : Hp), xs[i]? = some x → ys[i]? = some y → Pv i σ H → H T = none → g (.ref T) σ (upd H T (.tup [x, y])) fun σ2 H2 => tb { D with nx := Pv (i + 1), ct := Pv (i + 1), bk := D.nx } σ2 H2) (hd : ∀ σ H, Pv xs.length σ H → D.nx σ H) :
    ∃ W : Nat → Nat → L2.St → Hp → Prop, (∃ m, W 0 m σ H) ∧ ∀ i m σ H, W i m σ H →
      ((ItzM K a b).stop i H ∧ D.nx σ H) ∨ ((ItzM K a b).go i H ∧ ∃ N : L2.St → Hp → Prop, (∀ σ' H', N σ' H' → ∃ m', m' < m ∧ W (i + 1) m' σ' H') ∧ ∀ v H', (ItzM K a b).yld i H v H' → g v σ H' fun σ2 H2 => tb { D with nx := N, ct := N, bk := D.nx } σ2 H2) := by
  refine ⟨fun i m σ H => (m = xs.length - i ∧ i ≤ xs.length) ∧ Pv i σ H, ⟨xs.length, ⟨rfl, Nat.zero_le _⟩, h0⟩, ?_⟩
  rintro i m σ H ⟨⟨rfl, hi⟩, pv⟩
  obtain ⟨qx, qy⟩ := hq i σ H pv
  rcases Nat.lt_or_ge i xs.length with lt | ge
  · refine .inr ⟨⟨xs, ys, _, _, qx, qy, List.getElem?_eq_getElem lt, List.getElem?_eq_getElem (hl ▸ lt)⟩, Pv (i + 1), fun σ' H' p' => ⟨xs.length - (i + 1), by omega, ⟨rfl, lt⟩, p'⟩, ?_⟩
    rintro v H' ⟨T, x, y, rfl, hT, rfl, f1, f2⟩
    exact hs i x y T σ H (f1 xs qx) (f2 ys qy) pv hT
  · have e : i = xs.length := Nat.le_antisymm hi ge
    subst e
    exact .inl ⟨⟨xs, ys, qx, qy, by rw [← hl, Nat.min_self]⟩, hd σ H pv⟩
theorem call_isiK {X : Cx} {K : PySem.W.Frag} (h : X.K = K) : CallR X (.builtin "isinstance") (rIsi' K) := by
  subst h
  exact call_isi'
end Af

set_option Elab.async false
set_option linter.all false
set_option maxRecDepth 100000
set_option maxHeartbeats 1000000
namespace Af
open PySem PySem.Spec PyProof.Rows L2
/-! t[::-1], t a tuple -/
theorem pick_rev (l : List Value) : ((List.range l.length).filterMap fun (k : Nat) => l.toArray[(((l.length : Int) - 1) + (k : Int) * (-1)).toNat]?) = l.reverse := by
  have e : ((List.range l.length).filterMap fun (k : Nat) => l.toArray[(((l.length : Int) - 1) + (k : Int) * (-1)).toNat]?) = (List.range l.length).map fun k => l.getD (l.length - 1 - k) .none := by
    have : ∀ m, m ≤ l.length → ((List.range m).filterMap fun (k : Nat) => l.toArray[(((l.length : Int) - 1) + (k : Int) * (-1)).toNat]?) = (List.range m).map fun k => l.getD (l.length - 1 - k) .none := fun m => by
      induction m with
      | zero => intro _; rfl
      | succ m ih =>
        intro h
        rw [List.range_succ, List.filterMap_append, List.map_append, ih (by omega)]
        congr 1
        have i1 : (((l.length : Int) - 1) + (m : Int) * (-1)).toNat = l.length - 1 - m := by omega
        have i2 : l.length - 1 - m < l.length := by omega
        rw [List.filterMap_cons, i1]
        simp only [List.getElem?_toArray, List.getElem?_eq_getElem i2, List.filterMap_nil, List.map_cons, List.map_nil, List.getD_eq_getElem?_getD, Option.getD_some]
    exact this _ (Nat.le_refl _)
  rw [e]
  refine List.ext_getElem (by rw [List.length_map, List.length_range, List.length_reverse]) fun i h1 h2 => ?_
  rw [List.length_map, List.length_range] at h1
  rw [List.getElem_map, List.getElem_range, List.getElem_reverse, List.getD_eq_getElem?_getD, List.getElem?_eq_getElem (show l.length - 1 - i < l.length by omega)]
  rfl
section
variable {prog : Program} {w : World} {A : Around} {E : Value → Shared → Prop} {s : Shared}
theorem sliceApplied_rev {sl : Addr} {n : Nat} {vl vu vs : Value} {Q : Int × Int × Nat → Shared → Prop} (h1 : 1 ≤ n) (hs : s.heap.IsSliceOf sl vl vu vs) (pl : IsPart vl none) (pu : IsPart vu none) (ps : IsPart vs (some (-1)))
    (h : Q ((n : Int) - 1, -1, n) s) : wpAny (model prog w) A (Builtin.Slice.sliceApplied (.ref sl) (pure (n : Int))) Q E s := by
  obtain ⟨os, hos, hcs, hds⟩ := id hs
  unfold Builtin.Slice.sliceApplied Builtin.Slice.sliceFields
  refine wpAny_bind (wpAny_bind (wpAny_field hos hds (x := vl) rfl (wpAny_bind (wpAny_field hos hds (x := vu) rfl (wpAny_bind (wpAny_field hos hds (x := vs) rfl (wpAny_pure ?_)))))))
  refine wpAny_bind (HT.slicePart_ ps ?_)
  show wpAny _ _ (if ((-1 : Int) == 0) = true then _ else _) _ _ s
  rw [if_neg (by decide)]
  refine wpAny_bind (HT.slicePart_ pl (wpAny_bind (HT.slicePart_ pu (wpAny_bind (wpAny_pure ?_)))))
  show wpAny _ _ (match Builtin.Slice.sliceAdjust none none (-1) (n : Int) with | (lo, hi) => pure (lo, (-1 : Int), Builtin.Slice.slicePlaces lo hi (-1))) _ _ s
  rw [show Builtin.Slice.sliceAdjust none none (-1) (n : Int) = ((n : Int) - 1, -1) from rfl]
  show wpAny _ _ (pure (((n : Int) - 1), (-1 : Int), Builtin.Slice.slicePlaces ((n : Int) - 1) (-1) (-1))) _ _ s
  rw [show Builtin.Slice.slicePlaces ((n : Int) - 1) (-1) (-1) = n by
    unfold Builtin.Slice.slicePlaces
    rw [if_neg (by decide), if_pos (by omega)]
    show ((((n : Int) - 1 - -1 - 1) / 1) + 1).toNat = n
    rw [Int.ediv_one]
    omega]
  exact wpAny_pure h
theorem getItem_rev {t sl : Addr} {l : List Value} {vl vu vs : Value} {Q : Value → Shared → Prop} (l1 : 1 ≤ l.length) (lz : l.length ≤ sizeLine) (ht : IsTup s.heap t l.toArray) (hs : s.heap.IsSliceOf sl vl vu vs) (pl : IsPart vl none) (pu : IsPart vu none) (ps : IsPart vs (some (-1)))
    (h : Q (.ref s.heap.objs.size) { s with heap := s.heap.push { cls := .type "tuple", data := .seq l.reverse.toArray } }) : wpAny (model prog w) A (getItem (.ref t) (.ref sl)) Q E s := by
  have htake : sizeOk (.seq l.reverse.toArray) := by
    show l.reverse.toArray.size ≤ sizeLine
    rw [List.size_toArray, List.length_reverse]
    exact lz
  obtain ⟨os, hos, hcs, hds⟩ := id hs
  have hTs : s.TypeIs (.ref sl) "slice" := ⟨os, hos, hcs⟩
  unfold getItem
  try with_reducible refine wpAny_holding ?_
  first | refine wpAny_bind (wpAny_pure ?_) | skip
  refine wpAny_bind (wpAny_sequenceKey ht.typeIs (by decide) ?_)
  refine wpAny_bind (wpAny_callSpecial?_slot (name := Str.ofString "__getitem__") ht.typeIs PyProof.Rows.slot_tuple_getitem
    (wpAny_call_entry PyProof.Rows.slot_tuple_getitem ht.typeIs entry_tuple_getitem ?_ (args_tuple_getitem _ _)))
  show wpAny _ _ (Builtin.Tuple.tupleItemsOf (.ref t) >>= _) _ _ s
  refine wpAny_bind (tupleItemsOf_ ht ?_)
  refine wpAny_bind (wpAny_typeOf hTs ?_)
  rw [if_pos (by decide)]
  refine wpAny_bind (sliceApplied_rev (n := l.length) l1 hs pl pu ps ?_)
  show wpAny _ _ (if (((l.length : Int) - 1) == 0 && (-1 : Int) == 1 && l.length == l.toArray.size) = true then _ else _) _ _ s
  rw [if_neg (by simp)]
  dsimp only
  rw [pick_rev l]
  first
    | exact wpAny_bind (m := Builtin.Tuple.tupleExact _) (wpAny_newObj_type (wpAny_pure ⟨_, rfl, wpAny_pure h⟩) htake)
    | exact wpAny_bind (m := Builtin.Tuple.tupleExact _) (wpAny_newObj_type (wpAny_bind (wpAny_pure (wpAny_pure ⟨_, rfl, wpAny_pure h⟩))) htake)
    | exact wpAny_bind (wpAny_bind (m := Builtin.Tuple.tupleExact _) (wpAny_newObj_type (wpAny_pure (wpAny_pure ⟨_, rfl, wpAny_pure h⟩)) htake))
    | exact wpAny_bind (wpAny_bind (m := Builtin.Tuple.tupleExact _) (wpAny_newObj_type (wpAny_pure ⟨_, rfl, wpAny_pure h⟩) htake))
end
section
variable {X : Cx}
def tRevT (te : TE) : TE := fun σ H Q => te σ H fun x H1 => ∃ a xs, x = .ref a ∧ H1 a = some (.tup xs) ∧ 1 ≤ xs.length ∧ New (.tup xs.reverse) H1 Q
theorem pe_revT {e : Expr} {te : TE} {k : Nat} {p1 p2 p3 pos : Pos} (he : PE X e te) : PE X (.Subscript e (.Slice none none (some (.UnaryOp .USub (.Constant (.int 1) k p1) p2)) p3) pos) (tRevT te) := by
  refine ⟨fun pins s σ H Q I h => ?_⟩
  refine Subscript_ (thn (he.run pins s σ H _ I h) fun v s1 ⟨x, H1, I1, r1, q1⟩ => ?_)
  obtain ⟨a, xs, ex, hx0, xl, q⟩ := q1
  have hx : SqT X.K H1 a xs := SqT.of hx0
  subst ex
  cases r1
  have hst : PO X (some (.UnaryOp .USub (.Constant (.int 1) k p1) p2)) (tPart (tUn (rU fun i => .int (-i)) (tC (.int 1)))) := po_some (pe_un un_neg pe_int)
  refine wpAny_Slice (thn (po_none.run pins s1 σ H1 (fun o H2 => o = none ∧ H2 = H1) I1 ⟨rfl, rfl⟩) fun vl s2 ⟨l, H2, I2, pl, el, e2⟩ => ?_)
  subst el e2
  refine thn (po_none.run pins s2 σ H2 (fun o H3 => o = none ∧ H3 = H2) I2 ⟨rfl, rfl⟩) fun vu s3 ⟨u, H3, I3, pu, eu, e3⟩ => ?_
  subst eu e3
  refine thn (hst.run pins s3 σ H3 (fun o H4 => o = some (-1) ∧ H4 = H3) I3 ⟨1, rfl, -1, rfl, rfl, rfl⟩) fun vs s4 ⟨o, H4, I4, ps, eo, e4⟩ => ?_
  subst eo e4
  have I5 : Inv X pins σ H4 { s4 with heap := s4.heap.push { cls := .type "slice", data := .fields #[vl, vu, vs] } } := I4.kept (t' := s4.toks) fun b ob q => Heap.get?_push_of_some _ q
  obtain ⟨its, r, ht, hz⟩ := I5.tuple hx
  have hlen := r.length
  show wpAny (model X.prog X.w) X.A (subscriptTail e (.Slice none none (some (.UnaryOp .USub (.Constant (.int 1) k p1) p2)) p3) (.ref a) (.ref s4.heap.objs.size)) (EP X pins σ Q) X.xe { s4 with heap := s4.heap.push { cls := .type "slice", data := .fields #[vl, vu, vs] } }
  refine tail_any (ops := [.ref a, .ref s4.heap.objs.size]) ht.typeIs (PyProof.Rows.slot_tuple_getitem.lookup) ?_ (by with_unfolding_all rfl)
  refine getItem_rev (l := its) (by omega) (by omega) ht (Heap.IsSliceOf.new _ vl vu vs) pl pu ps ?_
  refine ⟨.ref _, _, I5.laid (t' := s4.toks) (o := .tup xs.reverse) (fun b ob q => Heap.get?_push_of_some _ q) (Nat.le_refl _) ?_, rfl, q.mk _ (I5.hok.fresh (Nat.le_refl _))⟩
  exact ⟨by rw [List.length_reverse]; exact hz, its.reverse, r.reverse, IsTup.new _ _⟩
end
end Af

set_option Elab.async false
set_option linter.all false
set_option maxRecDepth 100000
set_option maxHeartbeats 4000000
namespace Af
open PySem PySem.Spec PyProof.Rows L2
/-! what expressions make, told as data: nothing that stood is changed, what is made is told without the list at p -/
/-- a heap without the list at p and what S names -/
def gh (S : List Addr) (p : Addr) (H : Hp) : Hp := fun a => if a ∈ S then none else hd p H a
theorem gh_at {S : List Addr} {p a : Addr} {H : Hp} {o : HO} (n : a ≠ p) (m : a ∉ S) (h : H a = some o) : gh S p H a = some o := by
  unfold gh
  rw [if_neg m, hd_ne n]
  exact h
theorem gh_hd {S : List Addr} {p : Addr} {H : Hp} : Same (gh S p H) (hd p H) := fun a o e => by
  unfold gh at e
  by_cases m : a ∈ S
  · rw [if_pos m] at e
    cases e
  · rw [if_neg m] at e
    exact e
theorem gh_in {S : List Addr} {p : Addr} {H : Hp} : Same (gh S p H) H := fun a o e => hd_in a o (gh_hd a o e)
theorem gh_same {S : List Addr} {p : Addr} {H H' : Hp} (s : Same H H') : Same (gh S p H) (gh S p H') := fun a o e => by
  unfold gh at e ⊢
  by_cases m : a ∈ S
  · rw [if_pos m] at e
    cases e
  · rw [if_neg m] at e ⊢
    exact hd_same s a o e
/-- named, and not what stood at first -/
def Hid (S : List Addr) (H0 H : Hp) : Prop := ∀ a ∈ S, H0 a = none ∧ ∃ o, H a = some o ∧ ∀ xs, o ≠ .tup xs
theorem Hid.same {S : List Addr} {H0 H H' : Hp} (h : Hid S H0 H) (s : Same H H') : Hid S H0 H' := fun a m => by
  obtain ⟨h1, r, h2, h3⟩ := h a m
  exact ⟨h1, r, s _ _ h2, h3⟩
theorem Hid.new {S : List Addr} {H0 H : Hp} {a : Addr} (h : Hid S H0 H) (n : H a = none) : a ∉ S := fun m => by
  obtain ⟨_, r, h2, _⟩ := h a m
  rw [n] at h2
  cases h2
theorem gh_atT {S : List Addr} {p a : Addr} {H0 H : Hp} {xs : List V} (P : ∃ l, H p = some (.lst l)) (I : Hid S H0 H) (h : H a = some (.tup xs)) : gh S p H a = some (.tup xs) := by
  refine gh_at (fun e => ?_) (fun m => ?_) h
  · obtain ⟨l, hl⟩ := P
    rw [e, hl] at h
    cases h
  · obtain ⟨_, r, h2, h3⟩ := I a m
    rw [h] at h2
    exact h3 _ (Option.some.inj h2).symm
theorem gh_hd2 {l p : Addr} {H : Hp} : gh [l] p H = hd2 p l H := by
  funext a
  unfold gh hd2
  by_cases h : a = l <;> by_cases h2 : a = p <;> simp [hd, h, h2]
/-- a list that is appended to is hidden too -/
theorem hid_lst {l : Addr} {H : Hp} {xs : List V} (h : H l = some (.lst xs)) : Hid [l] (hd l H) H := fun a m => by
  rw [List.mem_singleton.mp m]
  exact ⟨if_pos rfl, _, h, fun _ e => by cases e⟩
def Ev (K : PySem.W.Frag) (p : Addr) (H0 : Hp) (σ : L2.St) (te : TE) (d : PyData) : Prop := ∀ (S : List Addr) (H : Hp) (Q : VK), Hid S H0 H → Same H0 H → (∀ v H', Same H H' → Dx K (gh S p H') v d → Q v H') → te σ H Q
def Evs (K : PySem.W.Frag) (p : Addr) (H0 : Hp) (σ : L2.St) (t : TA) (ds : List PyData) : Prop := ∀ (S : List Addr) (H : Hp) (Q : List V → Hp → Prop), Hid S H0 H → Same H0 H → (∀ vs H', Same H H' → DxAll K (gh S p H') vs ds → Q vs H') → t σ H Q
def IsL (p : Addr) (H0 : Hp) : Prop := ∃ l, H0 p = some (.lst l)
theorem IsL.same {p : Addr} {H H' : Hp} (h : IsL p H) (s : Same H H') : IsL p H' := by
  obtain ⟨l, h⟩ := h
  exact ⟨l, s _ _ h⟩
theorem IsL.ne {p a : Addr} {H : Hp} (h : IsL p H) (n : H a = none) : a ≠ p := fun e => by
  obtain ⟨l, h⟩ := h
  rw [e, h] at n
  cases n
theorem IsL.nt {p a : Addr} {H : Hp} {xs : List V} (h : IsL p H) (n : H a = some (.tup xs)) : a ≠ p := fun e => by
  obtain ⟨l, h⟩ := h
  rw [e, h] at n
  cases n
def cutD (ds : List PyData) (lo hi : Option Int) : List PyData := (ds.drop (HT.sIx ds.length 0 lo)).take (HT.sIx ds.length ds.length hi - HT.sIx ds.length 0 lo)
/-- a bound of a slice -/
def Evo (H0 : Hp) (σ : L2.St) (t : TO) (o : Option Int) : Prop := ∀ (S : List Addr) (H : Hp) (Q : Option Int → Hp → Prop), Hid S H0 H → Same H0 H → (∀ H', Same H H' → Q o H') → t σ H Q
section
variable {K : PySem.W.Frag} {p : Addr} {H0 : Hp} {σ : L2.St}
theorem DxAll.take {H : Hp} : ∀ {xs : List V} {ds : List PyData} (n : Nat), DxAll K H xs ds → DxAll K H (xs.take n) (ds.take n)
  | _, _, 0, _ => by rw [List.take_zero, List.take_zero]; exact .nil
  | _, _, n + 1, .nil => .nil
  | _, _, n + 1, .cons r t => .cons r (t.take n)
theorem DxAll.drop {H : Hp} : ∀ {xs : List V} {ds : List PyData} (n : Nat), DxAll K H xs ds → DxAll K H (xs.drop n) (ds.drop n)
  | _, _, 0, h => h
  | _, _, n + 1, .nil => .nil
  | _, _, n + 1, .cons r t => t.drop n
theorem DxAll.rev {H : Hp} : ∀ {xs : List V} {ds : List PyData}, DxAll K H xs ds → DxAll K H xs.reverse ds.reverse
  | _, _, .nil => .nil
  | _, _, .cons r t => by rw [List.reverse_cons, List.reverse_cons]; exact t.rev.app (.cons r .nil)
theorem DxAll.cut {H : Hp} {xs : List V} {ds : List PyData} (h : DxAll K H xs ds) (lo hi : Option Int) : DxAll K H (cutV xs lo hi) (cutD ds lo hi) := by
  unfold cutV cutD
  rw [h.len]
  exact (h.drop _).take _
theorem Ev.run {te : TE} {d : PyData} {H : Hp} {Q : VK} (e : Ev K p H0 σ te d) (s : Same H0 H) (k : ∀ v H', Same H H' → Dx K (hd p H') v d → Q v H') : te σ H Q := e [] H Q (fun a m => by cases m) s fun v H' s' q => k v H' s' (Dx.same gh_hd q)
theorem Ev.go {S : List Addr} {te : TE} {d : PyData} {H : Hp} {Q : VK} (e : Ev K p H0 σ te d) (i : Hid S H0 H) (s : Same H0 H) (k : ∀ v H', Same H H' → Dx K (gh S p H') v d → Q v H') : te σ H Q := e S H Q i s k
theorem Evs.run {t : TA} {ds : List PyData} {H : Hp} {Q : List V → Hp → Prop} (e : Evs K p H0 σ t ds) (s : Same H0 H) (k : ∀ vs H', Same H H' → DxAll K (hd p H') vs ds → Q vs H') : t σ H Q := e [] H Q (fun a m => by cases m) s fun v H' s' q => k v H' s' (DxAll.same gh_hd q)
theorem Evs.go {S : List Addr} {t : TA} {ds : List PyData} {H : Hp} {Q : List V → Hp → Prop} (e : Evs K p H0 σ t ds) (i : Hid S H0 H) (s : Same H0 H) (k : ∀ vs H', Same H H' → DxAll K (gh S p H') vs ds → Q vs H') : t σ H Q := e S H Q i s k
theorem ev_var {i : Nat} {v : V} {d : PyData} (hi : σ[i]? = some (some v)) (h : Dx K (hd p H0) v d) : Ev K p H0 σ (tVar i) d := fun S H Q I s k => ⟨v, hi, k v H (Same.refl _) (Dx.same (fun a o e => by
  have e0 := hd_in _ _ e
  have np : a ≠ p := fun z => by rw [z, show hd p H0 p = none from if_pos rfl] at e; cases e
  exact gh_at np (fun m => by rw [(I a m).1] at e0; cases e0) (s _ _ e0)) h)⟩
theorem ev_int {z : Int} : Ev K p H0 σ (tC (.int z)) (.int z) := fun S H Q I s k => k _ H (Same.refl _) (.int z)
theorem ev_str {z : Str} : Ev K p H0 σ (tC (.str z)) (.str z) := fun S H Q I s k => k _ H (Same.refl _) (.str z)
theorem ev_bl {z : Bool} : Ev K p H0 σ (tC (.bl z)) (.bool z) := fun S H Q I s k => k _ H (Same.refl _) (.bl z)
theorem ev_non : Ev K p H0 σ (tC .non) .none := fun S H Q I s k => k _ H (Same.refl _) .non
theorem evs_nil : Evs K p H0 σ tNil [] := fun S H Q I s k => k _ H (Same.refl _) .nil
theorem evs_cons {te : TE} {t : TA} {d : PyData} {ds : List PyData} (h : Ev K p H0 σ te d) (hs : Evs K p H0 σ t ds) : Evs K p H0 σ (tCons te t) (d :: ds) := fun S H Q I s k =>
  h.go I s fun v H1 s1 q1 => hs.go (I.same s1) (s.trans s1) fun vs H2 s2 q2 => k _ H2 (s1.trans s2) (.cons (Dx.same (gh_same s2) q1) q2)
theorem ev_tup {t : TA} {ds : List PyData} (P : IsL p H0) (h : Evs K p H0 σ t ds) (l : ds.length ≤ 100000) : Ev K p H0 σ (tTup' t) (.tuple ds) := fun S H Q I s k =>
  h.go I s fun vs H1 s1 q1 => ⟨sz (by rw [q1.len]; exact l), fun a H2 n s2 h2 => k _ H2 (s1.trans s2) (.tup (gh_at ((P.same (s.trans s1)).ne n) (((I.same s1)).new n) h2) (DxAll.same (gh_same s2) q1))⟩
theorem ev_lst {t : TA} {ds : List PyData} (P : IsL p H0) (h : Evs K p H0 σ t ds) (l : ds.length ≤ 100000) : Ev K p H0 σ (tLst' t) (.list ds) := fun S H Q I s k =>
  h.go I s fun vs H1 s1 q1 => ⟨sz (by rw [q1.len]; exact l), fun a H2 n s2 h2 => k _ H2 (s1.trans s2) (.lst (gh_at ((P.same (s.trans s1)).ne n) (((I.same s1)).new n) h2) (DxAll.same (gh_same s2) q1))⟩
theorem dx_lst {S : List Addr} {G : Hp} {v : V} {ds : List PyData} (h : Dx K (gh S p G) v (.list ds)) : ∃ a xs, v = .ref a ∧ G a = some (.lst xs) ∧ DxAll K (gh S p G) xs ds ∧ gh S p G a = some (.lst xs) := by
  cases h with
  | lst e t => exact ⟨_, _, rfl, gh_in _ _ e, t, e⟩
theorem dx_tupG {S : List Addr} {G : Hp} {v : V} {ds : List PyData} (h : Dx K (gh S p G) v (.tuple ds)) : ∃ a xs, v = .ref a ∧ G a = some (.tup xs) ∧ DxAll K (gh S p G) xs ds ∧ gh S p G a = some (.tup xs) := by
  cases h with
  | tup e t => exact ⟨_, _, rfl, gh_in _ _ e, t, e⟩
theorem ev_cat {ta tb : TE} {xs ys : List PyData} (P : IsL p H0) (ha : Ev K p H0 σ ta (.list xs)) (hb : Ev K p H0 σ tb (.list ys)) (l : xs.length + ys.length ≤ 100000) : Ev K p H0 σ (tOp rCat' ta tb) (.list (xs ++ ys)) := fun S H Q I s k =>
  ha.go I s fun v H1 s1 q1 => hb.go (I.same s1) (s.trans s1) fun u H2 s2 q2 => by
    obtain ⟨a, vs, rfl, h1, t1, g1⟩ := dx_lst q1
    obtain ⟨b, us, rfl, h2, t2, g2⟩ := dx_lst q2
    refine ⟨a, b, vs, us, rfl, rfl, s2 _ _ h1, h2, sz (by rw [t1.len, t2.len]; exact l), fun c H3 n s3 h3 => ?_⟩
    exact k _ H3 (s1.trans (s2.trans s3)) (.lst (gh_at ((P.same (s.trans (s1.trans s2))).ne n) (((I.same (s1.trans s2))).new n) h3) ((DxAll.same (gh_same (s2.trans s3)) t1).app (DxAll.same (gh_same s3) t2)))
theorem ev_catT {ta tb : TE} {xs ys : List PyData} (P : IsL p H0) (ha : Ev K p H0 σ ta (.tuple xs)) (hb : Ev K p H0 σ tb (.tuple ys)) (l : xs.length + ys.length ≤ 100000) : Ev K p H0 σ (tOp rCatT' ta tb) (.tuple (xs ++ ys)) := fun S H Q I s k =>
  ha.go I s fun v H1 s1 q1 => hb.go (I.same s1) (s.trans s1) fun u H2 s2 q2 => by
    obtain ⟨a, vs, rfl, h1, t1, g1⟩ := dx_tupG q1
    obtain ⟨b, us, rfl, h2, t2, g2⟩ := dx_tupG q2
    refine ⟨a, b, vs, us, rfl, rfl, s2 _ _ h1, h2, sz (by rw [t1.len, t2.len]; exact l), fun c H3 s3 h3 => ?_⟩
    exact k _ H3 (s1.trans (s2.trans s3)) (.tup (gh_atT (P.same (s.trans (s1.trans (s2.trans s3)))) (I.same (s1.trans (s2.trans s3))) h3) ((DxAll.same (gh_same (s2.trans s3)) t1).app (DxAll.same (gh_same s3) t2)))
theorem ev_rep {ta tb : TE} {xs : List PyData} {n : Int} (P : IsL p H0) (ha : Ev K p H0 σ ta (.list xs)) (hb : Ev K p H0 σ tb (.int n)) (n0 : 0 ≤ n) (n1 : n ≤ 1000) (l : xs.length * n.toNat ≤ 100000) : Ev K p H0 σ (tOp rRep' ta tb) (.list (List.replicate n.toNat xs).flatten) := fun S H Q I s k =>
  ha.go I s fun v H1 s1 q1 => hb.go (I.same s1) (s.trans s1) fun u H2 s2 q2 => by
    obtain ⟨a, vs, rfl, h1, t1, g1⟩ := dx_lst q1
    cases q2
    refine ⟨a, n, vs, rfl, rfl, s2 _ _ h1, n0, n1, sz (by rw [t1.len]; exact l), fun c H3 m s3 h3 => ?_⟩
    refine k _ H3 (s1.trans (s2.trans s3)) (.lst (gh_at ((P.same (s.trans (s1.trans s2))).ne m) (((I.same (s1.trans s2))).new m) h3) ?_)
    have t := DxAll.same (gh_same (s2.trans s3)) t1
    clear h3
    generalize n.toNat = m
    induction m with
    | zero => exact .nil
    | succ m ih => exact t.app ih
theorem ev_repT {ta tb : TE} {xs : List PyData} {n : Int} (P : IsL p H0) (ha : Ev K p H0 σ ta (.tuple xs)) (hb : Ev K p H0 σ tb (.int n)) (ne : xs ≠ []) (n0 : 0 ≤ n) (n1 : n ≤ 1000) (l : xs.length ≤ 1000) : Ev K p H0 σ (tOp rRepT' ta tb) (.tuple (List.replicate n.toNat xs).flatten) := fun S H Q I s k =>
  ha.go I s fun v H1 s1 q1 => hb.go (I.same s1) (s.trans s1) fun u H2 s2 q2 => by
    obtain ⟨a, vs, rfl, h1, t1, g1⟩ := dx_tupG q1
    cases q2
    have vn : vs ≠ [] := fun z => by
      have := t1.len
      rw [z] at this
      exact ne (List.eq_nil_of_length_eq_zero this.symm)
    refine ⟨a, n, vs, rfl, rfl, s2 _ _ h1, vn, n0, n1, by rw [t1.len]; exact l, fun c H3 s3 h3 => ?_⟩
    refine k _ H3 (s1.trans (s2.trans s3)) (.tup (gh_atT (P.same (s.trans (s1.trans (s2.trans s3)))) (I.same (s1.trans (s2.trans s3))) h3) ?_)
    have t := DxAll.same (gh_same (s2.trans s3)) t1
    clear h3
    generalize n.toNat = m
    induction m with
    | zero => exact .nil
    | succ m ih => exact t.app ih
theorem evo_none : Evo H0 σ tNoPart none := fun S H Q I s k => k H (Same.refl _)
theorem evo_some {te : TE} {i : Int} (h : Ev K p H0 σ te (.int i)) : Evo H0 σ (tPart te) (some i) := fun S H Q I s k =>
  h.go I s fun v H1 s1 q1 => by
    cases q1
    exact ⟨i, rfl, k H1 s1⟩
theorem ev_slL {te : TE} {tl th : TO} {xs : List PyData} {lo hi : Option Int} (P : IsL p H0) (h : Ev K p H0 σ te (.list xs)) (hl : Evo H0 σ tl lo) (hh : Evo H0 σ th hi) : Ev K p H0 σ (tSl rSlL' te tl th) (.list (cutD xs lo hi)) := fun S H Q I s k =>
  h.go I s fun v H1 s1 q1 => hl S H1 _ (I.same s1) (s.trans s1) fun H2 s2 => hh S H2 _ (I.same (s1.trans s2)) (s.trans (s1.trans s2)) fun H3 s3 => by
    obtain ⟨a, vs, rfl, h1, t1, g1⟩ := dx_lst q1
    refine ⟨a, vs, rfl, s3 _ _ (s2 _ _ h1), fun c H4 n s4 h4 => ?_⟩
    exact k _ H4 (s1.trans (s2.trans (s3.trans s4))) (.lst (gh_at ((P.same (s.trans (s1.trans (s2.trans s3)))).ne n) (((I.same (s1.trans (s2.trans s3)))).new n) h4) (DxAll.same (gh_same (s2.trans (s3.trans s4))) (t1.cut lo hi)))
theorem ev_slT {te : TE} {tl th : TO} {xs : List PyData} {lo hi : Option Int} (P : IsL p H0) (h : Ev K p H0 σ te (.tuple xs)) (hl : Evo H0 σ tl lo) (hh : Evo H0 σ th hi) : Ev K p H0 σ (tSl rSlT' te tl th) (.tuple (cutD xs lo hi)) := fun S H Q I s k =>
  h.go I s fun v H1 s1 q1 => hl S H1 _ (I.same s1) (s.trans s1) fun H2 s2 => hh S H2 _ (I.same (s1.trans s2)) (s.trans (s1.trans s2)) fun H3 s3 => by
    obtain ⟨a, vs, rfl, h1, t1, g1⟩ := dx_tupG q1
    refine ⟨a, vs, rfl, s3 _ _ (s2 _ _ h1), fun c H4 s4 h4 => ?_⟩
    exact k _ H4 (s1.trans (s2.trans (s3.trans s4))) (.tup (gh_atT (P.same (s.trans (s1.trans (s2.trans (s3.trans s4))))) (I.same (s1.trans (s2.trans (s3.trans s4)))) h4) (DxAll.same (gh_same (s2.trans (s3.trans s4))) (t1.cut lo hi)))
theorem ev_rev {te : TE} {xs : List PyData} (P : IsL p H0) (h : Ev K p H0 σ te (.list xs)) : Ev K p H0 σ (tRev' te) (.list xs.reverse) := fun S H Q I s k =>
  h.go I s fun v H1 s1 q1 => by
    obtain ⟨a, vs, rfl, h1, t1, g1⟩ := dx_lst q1
    exact ⟨a, vs, rfl, h1, fun c H2 n s2 h2 => k _ H2 (s1.trans s2) (.lst (gh_at ((P.same (s.trans s1)).ne n) (((I.same s1)).new n) h2) (DxAll.same (gh_same s2) t1.rev))⟩
theorem ev_revT {te : TE} {xs : List PyData} (P : IsL p H0) (h : Ev K p H0 σ te (.tuple xs)) (l : 1 ≤ xs.length) : Ev K p H0 σ (tRevT te) (.tuple xs.reverse) := fun S H Q I s k =>
  h.go I s fun v H1 s1 q1 => by
    obtain ⟨a, vs, rfl, h1, t1, g1⟩ := dx_tupG q1
    exact ⟨a, vs, rfl, h1, by rw [t1.len]; exact l, fun c H2 n s2 h2 => k _ H2 (s1.trans s2) (.tup (gh_at ((P.same (s.trans s1)).ne n) (((I.same s1)).new n) h2) (DxAll.same (gh_same s2) t1.rev))⟩
theorem ev_tupL {te : TE} {xs : List PyData} (P : IsL p H0) (h : Ev K p H0 σ te (.list xs)) : Ev K p H0 σ (tCB rTuple' (tCons te tNil)) (.tuple xs) := fun S H Q I s k =>
  h.go I s fun v H1 s1 q1 => by
    obtain ⟨a, vs, rfl, h1, t1, g1⟩ := dx_lst q1
    exact ⟨a, vs, rfl, .inl h1, fun c H2 s2 h2 => k _ H2 (s1.trans s2) (.tup (gh_atT (P.same (s.trans (s1.trans s2))) (I.same (s1.trans s2)) h2) (DxAll.same (gh_same s2) t1))⟩
theorem ev_tupT {te : TE} {xs : List PyData} (P : IsL p H0) (h : Ev K p H0 σ te (.tuple xs)) : Ev K p H0 σ (tCB rTuple' (tCons te tNil)) (.tuple xs) := fun S H Q I s k =>
  h.go I s fun v H1 s1 q1 => by
    obtain ⟨a, vs, rfl, h1, t1, g1⟩ := dx_tupG q1
    exact ⟨a, vs, rfl, .inr h1, fun c H2 s2 h2 => k _ H2 (s1.trans s2) (.tup (gh_atT (P.same (s.trans (s1.trans s2))) (I.same (s1.trans s2)) h2) (DxAll.same (gh_same s2) t1))⟩
theorem ev_lstL {te : TE} {xs : List PyData} (P : IsL p H0) (h : Ev K p H0 σ te (.list xs)) : Ev K p H0 σ (tCB rList' (tCons te tNil)) (.list xs) := fun S H Q I s k =>
  h.go I s fun v H1 s1 q1 => by
    obtain ⟨a, vs, rfl, h1, t1, g1⟩ := dx_lst q1
    exact ⟨a, vs, rfl, .inl h1, fun c H2 n s2 h2 => k _ H2 (s1.trans s2) (.lst (gh_at ((P.same (s.trans s1)).ne n) (((I.same s1)).new n) h2) (DxAll.same (gh_same s2) t1))⟩
theorem ev_lstT {te : TE} {xs : List PyData} (P : IsL p H0) (h : Ev K p H0 σ te (.tuple xs)) : Ev K p H0 σ (tCB rList' (tCons te tNil)) (.list xs) := fun S H Q I s k =>
  h.go I s fun v H1 s1 q1 => by
    obtain ⟨a, vs, rfl, h1, t1, g1⟩ := dx_tupG q1
    exact ⟨a, vs, rfl, .inr h1, fun c H2 n s2 h2 => k _ H2 (s1.trans s2) (.lst (gh_at ((P.same (s.trans s1)).ne n) (((I.same s1)).new n) h2) (DxAll.same (gh_same s2) t1))⟩
theorem ev_neg {i : Int} {te : TE} (h : Ev K p H0 σ te (.int i)) : Ev K p H0 σ (tUn (rU fun i => .int (-i)) te) (.int (-i)) := fun S H Q I s k =>
  h.go I s fun v H1 s1 q1 => by
    cases q1
    exact ⟨i, rfl, k _ H1 s1 (.int _)⟩
theorem ev_I0 {f : Int → Int → V} {g : Int → Int → PyData} {i j : Int} {ta tb : TE} (hf : ∀ H, Dx K H (f i j) (g i j)) (ha : Ev K p H0 σ ta (.int i)) (hb : Ev K p H0 σ tb (.int j)) : Ev K p H0 σ (tOp (rI0 f) ta tb) (g i j) := fun S H Q I s k =>
  ha.go I s fun v H1 s1 q1 => hb.go (I.same s1) (s.trans s1) fun u H2 s2 q2 => by
    cases q1
    cases q2
    exact ⟨i, j, rfl, rfl, k _ H2 (s1.trans s2) (hf _)⟩
theorem ev_add {i j : Int} {ta tb : TE} (ha : Ev K p H0 σ ta (.int i)) (hb : Ev K p H0 σ tb (.int j)) : Ev K p H0 σ (tOp (rI0 fun i j => .int (i + j)) ta tb) (.int (i + j)) := ev_I0 (g := fun i j => .int (i + j)) (fun _ => .int _) ha hb
theorem ev_sub {i j : Int} {ta tb : TE} (ha : Ev K p H0 σ ta (.int i)) (hb : Ev K p H0 σ tb (.int j)) : Ev K p H0 σ (tOp (rI0 fun i j => .int (i - j)) ta tb) (.int (i - j)) := ev_I0 (g := fun i j => .int (i - j)) (fun _ => .int _) ha hb
theorem ev_mul {i j : Int} {ta tb : TE} (ha : Ev K p H0 σ ta (.int i)) (hb : Ev K p H0 σ tb (.int j)) (c : CMul i j) : Ev K p H0 σ (tOp (rI CMul fun i j => .int (i * j)) ta tb) (.int (i * j)) := fun S H Q I s k =>
  ha.go I s fun v H1 s1 q1 => hb.go (I.same s1) (s.trans s1) fun u H2 s2 q2 => by
    cases q1
    cases q2
    exact ⟨i, j, rfl, rfl, c, k _ H2 (s1.trans s2) (.int _)⟩
theorem ev_pow {i j : Int} {ta tb : TE} (ha : Ev K p H0 σ ta (.int i)) (hb : Ev K p H0 σ tb (.int j)) (c : CPow i j) : Ev K p H0 σ (tOp (rI CPow fun i j => .int (i ^ j.toNat)) ta tb) (.int (i ^ j.toNat)) := fun S H Q I s k =>
  ha.go I s fun v H1 s1 q1 => hb.go (I.same s1) (s.trans s1) fun u H2 s2 q2 => by
    cases q1
    cases q2
    exact ⟨i, j, rfl, rfl, c, k _ H2 (s1.trans s2) (.int _)⟩
theorem ev_eqI {i j : Int} {ta tb : TE} (ha : Ev K p H0 σ ta (.int i)) (hb : Ev K p H0 σ tb (.int j)) : Ev K p H0 σ (tOp rEq ta tb) (.bool (decide (V.int i = V.int j))) := fun S H Q I s k =>
  ha.go I s fun v H1 s1 q1 => hb.go (I.same s1) (s.trans s1) fun u H2 s2 q2 => by
    cases q1
    cases q2
    exact ⟨rfl, k _ H2 (s1.trans s2) (.bl _)⟩
theorem ev_strI {i : Int} {te : TE} (h : Ev K p H0 σ te (.int i)) (c : i.natAbs.log2 < 1920) : Ev K p H0 σ (tCB (fun xs H Q => ∃ i : Int, xs = [.int i] ∧ i.natAbs.log2 < 1920 ∧ Q (.str (toString i)) H) (tCons te tNil)) (.str (toString i)) := fun S H Q I s k =>
  h.go I s fun v H1 s1 q1 => by
    cases q1
    exact ⟨i, rfl, c, k _ H1 s1 (.str _)⟩
theorem ev_lenT {te : TE} {xs : List PyData} (h : Ev K p H0 σ te (.tuple xs)) : Ev K p H0 σ (tCB rLen' (tCons te tNil)) (.int (xs.length : Nat)) := fun S H Q I s k =>
  h.go I s fun v H1 s1 q1 => by
    obtain ⟨a, vs, rfl, h1, t1, g1⟩ := dx_tupG q1
    refine ⟨a, vs, rfl, .inr h1, ?_⟩
    rw [t1.len]
    exact k _ H1 s1 (.int _)
theorem ev_len {te : TE} {xs : List PyData} (h : Ev K p H0 σ te (.list xs)) : Ev K p H0 σ (tCB rLen' (tCons te tNil)) (.int (xs.length : Nat)) := fun S H Q I s k =>
  h.go I s fun v H1 s1 q1 => by
    obtain ⟨a, vs, rfl, h1, t1, g1⟩ := dx_lst q1
    refine ⟨a, vs, rfl, .inl h1, ?_⟩
    rw [t1.len]
    exact k _ H1 s1 (.int _)
theorem ev_dnew (P : IsL p H0) : Ev K p H0 σ tDNewK (.dict []) := fun S H Q I s k a n => k _ _ (same_new n) (.dic (gh_at ((P.same s).ne n) (I.new n) upd_same) .nil)
/-- a dict of one number or text -/
theorem ev_disp1 {tk tv : TE} {k0 : L2.Key} {d : PyData} (P : IsL p H0) (hk : Ev K p H0 σ tk (keyD k0)) (hv : Ev K p H0 σ tv d) : Ev K p H0 σ (tDisp [(tk, tv)]) (.dict [(keyD k0, d)]) := fun S H Q I s k a n => by
  have s0 := same_new (o := .dK []) n
  have na := (P.same s).ne n
  have n0 : H0 a = none := s.free n
  have I1 : Hid (a :: S) H0 (upd H a (.dK [])) := fun b m => by
    rcases List.mem_cons.mp m with rfl | m
    · exact ⟨n0, _, upd_same, fun _ e => by cases e⟩
    · exact (I.same s0) b m
  refine hk.go I1 (s.trans s0) fun x H1 s1 q1 => hv.go (I1.same s1) (s.trans (s0.trans s1)) fun y H2 s2 q2 => ?_
  have ha : H2 a = some (.dK []) := s2 _ _ (s1 _ _ upd_same)
  have ex : x = kV k0 := by
    cases k0 with
    | inl i => cases q1; rfl
    | inr z => cases q1; rfl
  subst ex
  refine ⟨ha, [(k0, y)], rfl, by simp, ?_⟩
  have s3 : Same H (upd H2 a (.dK (mergeK [] [(k0, y)]))) := fun b o e => by
    rw [upd_ne (fun z => by rw [z, n] at e; cases e)]
    exact s2 _ _ (s1 _ _ (s0 _ _ e))
  refine k _ _ s3 (.dic (gh_at na (I.new n) upd_same) ?_)
  refine .cons (k := k0) (Dx.same (fun b o e => ?_) q2) .nil
  have eb := gh_in _ _ e
  have nb : b ≠ a := fun z => by
    unfold gh at e
    rw [z, if_pos List.mem_cons_self] at e
    cases e
  have mb : b ∉ S := fun m => by
    unfold gh at e
    rw [if_pos (List.mem_cons_of_mem _ m)] at e
    cases e
  have pb : b ≠ p := fun z => by
    have e2 := gh_hd _ _ e
    rw [z, show hd p H2 p = none from if_pos rfl] at e2
    cases e2
  exact gh_at pb mb (by rw [upd_ne nb]; exact eb)
end
end Af

set_option Elab.async false
set_option linter.all false
set_option maxRecDepth 100000
namespace Af
open PySem PySem.Spec PyProof.Rows L2
/-! xs.count(True); isinstance of an error that is held, of whatever class -/
def rCntT (K : PySem.W.Frag) : V → List V → Hp → VK → Prop := fun x xs H Q => ∃ (p : Addr) (bs : List Bool), x = .ref p ∧ xs = [.bl true] ∧ SqL K H p (bs.map V.bl) ∧ Q (.int ((bs.count true : Nat) : Int)) H
theorem dp_bools {K : PySem.W.Frag} {H : Hp} : ∀ bs : List Bool, DpAll K H (bs.map V.bl) (bs.map PyData.bool)
  | [] => .nil
  | b :: bs => .cons (.bl b) (dp_bools bs)
theorem lay_bools : ∀ bs : List Bool, PyData.canLayAll0 (bs.map PyData.bool) = true
  | [] => rfl
  | b :: bs => by
    show (PyData.canLay0 (.bool b) && PyData.canLayAll0 (bs.map PyData.bool)) = true
    rw [lay_bools bs]
    rfl
theorem cnt_bools : ∀ bs : List Bool, (bs.map PyData.bool).countP (fun y => PyData.eqv y (.bool true)) = bs.count true
  | [] => rfl
  | b :: bs => by
    rw [List.map_cons, List.countP_cons, cnt_bools bs, List.count_cons]
    cases b <;> rfl
theorem mt_countT {X : Cx} (hu : X.A.units + 1 < cLine) : MtR X "list.count" (rCntT X.K) := by
  intro pins s σ H x xs v us Q I rx rxs h
  obtain ⟨p, bs, rfl, rfl, hs, q⟩ := h
  cases (show v = Value.ref p from rx)
  obtain ⟨u, rfl, ru⟩ := rxs.one
  cases (show u = Value.bool true from ru)
  obtain ⟨its, rv, pl, _⟩ := I.list hs
  obtain ⟨as, rs⟩ := Dp.readsAll I _ _ its (dp_bools bs) rv
  refine PySem.SeqAt.count_list_data (d := .bool true) (vs := its.toArray) pl.isList (by simpa using rs) (Reads.bool true) (PyData.plainAll_of_canLay0 _ (lay_bools bs)) rfl (by show X.A.units + 1 + min _ 0 < cLine; omega) ?_
  refine ⟨.int ((bs.map PyData.bool).countP (fun y => PyData.eqv y (.bool true)) : Nat), H, I.tok _, ⟨_, rfl⟩, ?_⟩
  rw [cnt_bools]
  exact q
def rIsHeldE (K : PySem.W.Frag) : List V → Hp → VK → Prop := fun xs H Q => ∃ D, L2.ExcC K D ∧ rIsHeld K D xs H Q
theorem call_isHeldE {X : Cx} : CallR X (.builtin "isinstance") (rIsHeldE X.K) := by
  intro pins s σ H xs us Q I r h
  obtain ⟨D, C, h⟩ := h
  exact call_isHeld C pins s σ H xs us Q I r h
/-- xs.index(True) of some bools -/
def rIdxT (K : PySem.W.Frag) : V → List V → Hp → VK → Prop := fun x xs H Q => ∃ (p : Addr) (bs : List Bool) (j : Nat), x = .ref p ∧ xs = [.bl true] ∧ SqL K H p (bs.map V.bl) ∧ bs.idxOf true = j ∧ j < bs.length ∧ Q (.int (j : Int)) H
end Af

set_option Elab.async false
set_option linter.all false
set_option maxRecDepth 100000
set_option maxHeartbeats 2000000
namespace Af
open PySem PySem.Spec PyProof.Rows L2
/-! a def that may raise, as others call it; data of any kind, as the program's questions see it -/
structure CalX (P : Program) (w : World) (K : PySem.W.Frag) (mg : Str → Option Value) (base : Heap) (k : Nat) (x : Str) (ps : List Str) (sp : Sp) : Prop where
  ex : ∃ (f : Addr) (fd : FuncData), FnOk P w K mg base (L2.CX P w) k f fd ps sp ∧ mg x = some (.ref f) ∧ PySem.W.keepIn K (.ref f) = true ∧ Binds K fd ps []
section
variable {X : Cx} {k j : Nat} {x : Str} {ps : List Str} {sp : Sp} {e : Expr} {es : List Expr} {t : TA} {p pos : Pos} {E : L2.St → XK}
theorem pe_calX (c : CalX X.prog X.w X.K X.mg X.base k x ps sp) (hr : Room j X.A) (out : ∀ σ, PassesAt (L2.CX X.prog X.w) X σ (E σ)) (ha : PA X (e :: es) t) (hkj : k ≤ j := by decide) (hg : Gl X x := by rfl) (hdb : (x == ("__debug__" : Str)) = false := by decide)
    (he : starEach (e :: es) X.env = (false, eval e X.env) :: starEach es X.env := by rfl) (hpl : (backTo pos (starEach es X.env)).any (·.1) = false := by rfl) :
    PE X (.Call (.Name x p) (e :: es) [] pos) (tCallS sp E t) := by
  obtain ⟨f, fd, G, m, kp, b⟩ := c.ex
  exact pe_callS G (hr.mono hkj) hg m kp b out ha hdb he hpl
/-- where what is raised leaves the def -/
theorem outE {E : XK} (h : Passes (L2.CX X.prog X.w) X E) : ∀ σ, PassesAt (L2.CX X.prog X.w) X σ ((fun _ => E) σ) := fun σ pins H s e s' I c => h pins σ H s e s' I c
def rIsHeldTE (K : PySem.W.Frag) : List V → Hp → VK → Prop := fun xs H Q => ∃ D, L2.ExcC K D ∧ rIsHeldT K D xs H Q
theorem call_isHeldTE : CallR X (.builtin "isinstance") (rIsHeldTE X.K) := by
  intro pins s σ H xs us Q I r h
  obtain ⟨D, C, h⟩ := h
  exact call_isHeldT C pins s σ H xs us Q I r h
end
section
variable {K : PySem.W.Frag} {H : Hp}
theorem worths_ints {m : Int} : ∀ {xs : List V} {ds : List PyData}, DxAll K H xs ds → ds.all (idxD m) = true → ∃ ws, xs = ivs ws ∧ ds = dvs ws ∧ ∀ z ∈ ws, 0 ≤ z ∧ z < m
  | _, _, .nil, _ => ⟨[], rfl, rfl, fun z hz => by cases hz⟩
  | _, _, .cons (d := d) h t, q => by
    rw [List.all_cons, Bool.and_eq_true] at q
    obtain ⟨ws, e1, e2, b⟩ := worths_ints t q.2
    cases h with
    | int i =>
      have q1 : (decide (0 ≤ i) && decide (i < m)) = true := q.1
      rw [Bool.and_eq_true] at q1
      refine ⟨i :: ws, by rw [e1]; rfl, by rw [e2]; rfl, fun z hz => ?_⟩
      rcases List.mem_cons.mp hz with rfl | hz
      · exact ⟨of_decide_eq_true q1.1, of_decide_eq_true q1.2⟩
      · exact b z hz
    | _ => cases q.1
/-- what passes for worths is a tuple of small numbers -/
theorem worths_of {x : V} {d : PyData} (h : Dx K H x d) (q : worthsD d = true) : ∃ a ws, x = .ref a ∧ H a = some (.tup (ivs ws)) ∧ d = .tuple (dvs ws) ∧ 1 ≤ ws.length ∧ ∀ z ∈ ws, 0 ≤ z ∧ z < 8 := by
  cases h with
  | tup e t =>
    have q : (!_ && _) = true := q
    rw [Bool.and_eq_true] at q
    obtain ⟨ws, e1, e2, b⟩ := worths_ints t q.2
    subst e1 e2
    refine ⟨_, ws, rfl, e, rfl, ?_, b⟩
    cases ws with
    | nil => exact absurd q.1 (by simp [dvs])
    | cons z r => exact Nat.succ_le_succ (Nat.zero_le _)
  | _ => cases q
end
end Af

set_option Elab.async false
set_option linter.all false
set_option maxRecDepth 100000
set_option maxHeartbeats 8000000
namespace Af
open PySem L2
abbrev s_check_worths : Stmt := top 28
abbrev N_check_worths : List Str := ["olds", "news"]
theorem sc_check_worths : FnScope N_check_worths ["olds", "news"] (defScope s_check_worths) := ⟨rfl, rfl, rfl, by decide +kernel, rfl, by decide +kernel, by decide +kernel⟩

abbrev s_check_barriers : Stmt := top 29
abbrev N_check_barriers : List Str := ["many", "barriers", "at"]
theorem sc_check_barriers : FnScope N_check_barriers ["many", "barriers"] (defScope s_check_barriers) := ⟨rfl, rfl, rfl, by decide +kernel, rfl, by decide +kernel, by decide +kernel⟩

abbrev s_with_barriers : Stmt := top 34
abbrev N_with_barriers : List Str := ["writes", "barriers", "steps", "write", "barrier"]
theorem sc_with_barriers : FnScope N_with_barriers ["writes", "barriers"] (defScope s_with_barriers) := ⟨rfl, rfl, rfl, by decide +kernel, rfl, by decide +kernel, by decide +kernel⟩

/-- an own exception class without an __init__ of its own -/
structure ExcC (K : PySem.W.Frag) (mg : Str → Option Value) (n : Str) (C : Addr) : Prop where
  gP : mg n = some (.ref C)
  xP : PySem.W.excIn K C [.type "ValueError", .type "Exception", .type "BaseException", .type "object"] "ValueError.__new__" = true
  kP : PySem.W.keepIn K (.ref C) = true
  bP : PySem.W.subIn K (.ref C) (.type "BaseException") = some true
  tP : PySem.W.typeIn K (.ref C) = some (.type "type")
/-- two tuples of as many worths, one to seven -/
def wOk (d1 d2 : PyData) : Bool := worthsD d1 && worthsD d2 && decide (lenD d1 = lenD d2) && decide (lenD d1 ≤ 7)
def boolQ : PyData → Bool
  | .bool _ => true
  | _ => false
def barQ (n : Nat) : PyData → Bool
  | .tuple ds => decide (ds.length = n) && ds.all boolQ
  | _ => false
def sp_checkW (K : PySem.W.Frag) (IW : Addr) : Sp := fun vs H Q E => ∃ (u v : V) (du dv : PyData), vs = [u, v] ∧ Dx K H u du ∧ Dx K H v dv ∧ WdD du ∧ WdD dv ∧ (wOk du dv = false → ∀ H', Same H H' → E (.ref IW) none H') ∧ (wOk du dv = true → ∀ H', Same H H' → Q .non H')
def sp_checkB (K : PySem.W.Frag) (IB : Addr) : Sp := fun vs H Q E => ∃ (n : Nat) (v : V) (d : PyData), vs = [.int (n : Nat), v] ∧ Dx K H v d ∧ WdD d ∧ (barQ n d = false → ∀ H', Same H H' → E (.ref IB) none H') ∧ (barQ n d = true → ∀ H', Same H H' → Q .non H')
def wv (x : V) (ps : List (V × Bool)) : List V := x :: ps.flatMap fun p => if p.2 = true then [V.non, p.1] else [p.1]
theorem wv_snoc (x : V) (ps : List (V × Bool)) (p : V × Bool) : wv x (ps ++ [p]) = wv x ps ++ (if p.2 = true then [V.non, p.1] else [p.1]) := by
  unfold wv
  rw [List.flatMap_append]
  simp
theorem wv_len (x : V) : ∀ ps : List (V × Bool), (wv x ps).length ≤ 2 * ps.length + 1
  | [] => Nat.le_refl 1
  | p :: ps => by
    have := wv_len x ps
    unfold wv at this ⊢
    rw [List.flatMap_cons, List.length_cons, List.length_append, List.length_cons]
    rw [List.length_cons] at this
    have h : (if p.2 = true then [V.non, p.1] else [p.1]).length ≤ 2 := by
      split
      · exact (by decide : 2 ≤ 2)
      · exact (by decide : 1 ≤ 2)
    omega
theorem cut_first (x : V) (rs : List V) : cutV (x :: rs) none (some 1) = [x] := by
  unfold cutV
  have e1 : HT.sIx (x :: rs).length 0 none = 0 := rfl
  have e2 : HT.sIx (x :: rs).length (x :: rs).length (some 1) = 1 := by
    show min (1 : Int).toNat (rs.length + 1) = 1
    show min 1 (rs.length + 1) = 1
    omega
  rw [e1, e2]
  rfl
theorem cut_rest (x : V) (rs : List V) : cutV (x :: rs) (some 1) none = rs := by
  unfold cutV
  have e1 : HT.sIx (x :: rs).length (x :: rs).length none = (x :: rs).length := rfl
  have e2 : HT.sIx (x :: rs).length 0 (some 1) = 1 := by
    show min 1 (rs.length + 1) = 1
    omega
  rw [e1, e2]
  show rs.take (rs.length + 1 - 1) = rs
  rw [Nat.add_sub_cancel, List.take_length]
def sp_withB : Sp := fun vs H Q _ => ∃ (a b : Addr) (x : V) (rs : List V) (bs : List Bool), vs = [.ref a, .ref b] ∧ H a = some (.lst (x :: rs)) ∧ H b = some (.tup (bs.map V.bl)) ∧ rs.length = bs.length ∧ rs.length ≤ 100 ∧ ∀ l H', Same H H' → H l = none → H' l = some (.lst (wv x (rs.zip bs))) → Q (.ref l) H'
theorem ty_tX {K : PySem.W.Frag} {H : Hp} {a : Addr} {xs : List V} (h : H a = some (.tup xs)) : Ty K H (.ref a) "tuple" := ⟨.tup h, by decide, fun b o u e z => by cases e; rw [h] at z; cases z⟩
theorem ne_tl {H : Hp} {a b : Addr} {xs ys : List V} (h1 : H a = some (.tup xs)) (h2 : H b = some (.lst ys)) : a ≠ b := fun e => by
  rw [e, h2] at h1
  cases h1
theorem dx_tup_or {K : PySem.W.Frag} {H : Hp} {x : V} {d : PyData} (h : Dx K H x d) : (∃ a xs ds, x = .ref a ∧ H a = some (.tup xs) ∧ d = .tuple ds ∧ DxAll K H xs ds) ∨ (∃ n, Ty K H x n ∧ isB n "tuple" = false ∧ ∀ ds, d ≠ .tuple ds) := by
  cases h with
  | non => exact .inr ⟨_, ⟨.non, by decide, fun _ _ _ e => by cases e⟩, by decide, fun _ e => by cases e⟩
  | bl b => exact .inr ⟨_, ⟨.bl b, by decide, fun _ _ _ e => by cases e⟩, by decide, fun _ e => by cases e⟩
  | int i => exact .inr ⟨_, ⟨.int i, by decide, fun _ _ _ e => by cases e⟩, by decide, fun _ e => by cases e⟩
  | str z => exact .inr ⟨_, ⟨.str z, by decide, fun _ _ _ e => by cases e⟩, by decide, fun _ e => by cases e⟩
  | lst e t => exact .inr ⟨_, ⟨.lst e, by decide, fun b o u q z => by cases q; rw [e] at z; cases z⟩, by decide, fun _ e => by cases e⟩
  | tup e t => exact .inl ⟨_, _, _, rfl, e, rfl, t⟩
  | dic e t => exact .inr ⟨_, ⟨.dK e, by decide, fun b o u q z => by cases q; rw [e] at z; cases z⟩, by decide, fun _ e => by cases e⟩
theorem dx_bool {K : PySem.W.Frag} {H : Hp} {x : V} {d : PyData} (h : Dx K H x d) : ∃ n, Ty K H x n ∧ isB n "bool" = boolQ d := by
  cases h with
  | non => exact ⟨_, ⟨.non, by decide, fun _ _ _ e => by cases e⟩, (show isB "NoneType" "bool" = false by decide)⟩
  | bl b => exact ⟨_, ⟨.bl b, by decide, fun _ _ _ e => by cases e⟩, (show isB "bool" "bool" = true by decide)⟩
  | int i => exact ⟨_, ⟨.int i, by decide, fun _ _ _ e => by cases e⟩, (show isB "int" "bool" = false by decide)⟩
  | str z => exact ⟨_, ⟨.str z, by decide, fun _ _ _ e => by cases e⟩, (show isB "str" "bool" = false by decide)⟩
  | lst e t => exact ⟨_, ⟨.lst e, by decide, fun b o u q z => by cases q; rw [e] at z; cases z⟩, (show isB "list" "bool" = false by decide)⟩
  | tup e t => exact ⟨_, ⟨.tup e, by decide, fun b o u q z => by cases q; rw [e] at z; cases z⟩, (show isB "tuple" "bool" = false by decide)⟩
  | dic e t => exact ⟨_, ⟨.dK e, by decide, fun b o u q z => by cases q; rw [e] at z; cases z⟩, (show isB "dict" "bool" = false by decide)⟩
section
variable {P : Program} {w : World} {K : PySem.W.Frag} {mg : Str → Option Value} {base : Heap}
theorem ok_check_worths {f IW : Addr} {fd : FuncData} (F : Fun K "_check_worths" "_check_worths" s_check_worths f fd) (T : Txt mg) (XW : ExcC K mg "InvalidWorths" IW) (most : ∃ t, mg "MOST_WORTHS" = some (.int 7 t)) (c_are_worths : Cal P w K mg base 3 "are_worths" ["thing"] (sp_are_worths K)) : FnOk P w K mg base (L2.CX P w) 4 f fd ["olds", "news"] (sp_checkW K IW) := by
  refine F.okX sc_check_worths (fun vs H Q E h => ?_) (fun cdv A outer s H vs Q E hr h => ?_)
  · obtain ⟨_, _, _, _, rfl, _⟩ := h
    rfl
  obtain ⟨u, v, du, dv, rfl, hu, hv, lu, lv, k1, k2⟩ := h
  obtain ⟨tg, c_MOST_WORTHS⟩ := most
  refine ⟨_, (pss_one (ps_if (PW.pt (pw_or (pt_not (pt_val (pe_cal c_are_worths hr (pa_cons (pv 0) pa_nil)))) (pw_or (pt_not (pt_val (pe_cal c_are_worths hr (pa_cons (pv 1) pa_nil)))) (pw_or (pt_cmpR op_ne (pe_callB call_len' (by rfl) T.len (by decide +kernel) (pa_cons (pv 0) pa_nil)) (pe_callB call_len' (by rfl) T.len (by decide +kernel) (pa_cons (pv 1) pa_nil)) (nomark _)) (pw_or1 (pt_cmpR op_gt (pe_callB call_len' (by rfl) T.len (by decide +kernel) (pa_cons (pv 0) pa_nil)) (pe_glob (v := .int 7) rfl c_MOST_WORTHS ⟨_, rfl⟩) (nomark _)))))))
      (pss_one (ps_raise rfl (takes_of rfl rfl rfl rfl) (pmk_own PySem.F.excBase_ValueError XW.xP XW.gP XW.kP (raises_own XW.bP XW.tP) rfl)))
      pss_nil)), ?_⟩
  refine ⟨_, rfl, u, rfl, dx_th1 hu lu, fun H1 s1 => ?_⟩
  rw [dx_worths hu]
  cases e1 : worthsD du with
  | false => exact ⟨_, rfl, k1 (by unfold wOk; rw [e1]; rfl) H1 s1⟩
  | true =>
  refine ⟨_, rfl, iteF ⟨_, rfl, v, rfl, dx_th1 (Dx.same s1 hv) lv, fun H2 s2 => ?_⟩⟩
  rw [dx_worths (Dx.same s1 hv)]
  have S2 := s1.trans s2
  cases e2 : worthsD dv with
  | false => exact ⟨_, rfl, k1 (by unfold wOk; rw [e2, Bool.and_false]; rfl) H2 S2⟩
  | true =>
  obtain ⟨a, os, rfl, ha, rfl, o1, ob⟩ := worths_of hu e1
  obtain ⟨b, ns, rfl, hb, rfl, n1, nb⟩ := worths_of hv e2
  refine ⟨_, rfl, iteF ⟨_, rfl, a, _, rfl, .inr (S2 _ _ ha), _, rfl, b, _, rfl, .inr (S2 _ _ hb), rfl, _, rfl, ?_⟩⟩
  rw [ivs_len, ivs_len]
  have ew : wOk (.tuple (dvs os)) (.tuple (dvs ns)) = (decide (os.length = ns.length) && decide (os.length ≤ 7)) := by
    unfold wOk
    rw [e1, e2]
    show (true && true && decide ((dvs os).length = (dvs ns).length) && decide ((dvs os).length ≤ 7)) = _
    unfold dvs
    rw [List.length_map, List.length_map]
    rfl
  rw [ew] at k1 k2
  refine ite2 (fun z => k1 ?_ H2 S2) (fun z => ?_)
  · have : os.length ≠ ns.length := fun e => by rw [e] at z; simp at z
    rw [decide_eq_false this]
    rfl
  have hl : os.length = ns.length := by
    have z' : V.int (os.length : Nat) = V.int (ns.length : Nat) := by simpa using z
    injection z' with z'
    omega
  refine ⟨_, rfl, a, _, rfl, .inr (S2 _ _ ha), ?_⟩
  rw [ivs_len]
  refine ⟨_, _, rfl, rfl, _, rfl, ite2 (fun z => k1 ?_ H2 S2) (fun z => k2 ?_ H2 S2)⟩
  · have := of_decide_eq_true z
    rw [decide_eq_false (show ¬ os.length ≤ 7 by omega), Bool.and_false]
  · have : ¬ ((7 : Int) < (os.length : Nat)) := fun h => z (decide_eq_true h)
    rw [decide_eq_true hl, decide_eq_true (show os.length ≤ 7 by omega)]
    rfl
theorem ok_check_barriers {f IB : Addr} {fd : FuncData} (F : Fun K "_check_barriers" "_check_barriers" s_check_barriers f fd) (T : Txt mg) (XB : ExcC K mg "InvalidBarriers" IB) : FnOk P w K mg base (L2.CX P w) 1 f fd ["many", "barriers"] (sp_checkB K IB) := by
  refine F.okX sc_check_barriers (fun vs H Q E h => ?_) (fun cdv A outer s H vs Q E hr h => ?_)
  · obtain ⟨_, _, _, rfl, _⟩ := h
    rfl
  obtain ⟨n, v, d, rfl, hv, lv, k1, k2⟩ := h
  refine ⟨_, (pss_one (ps_if (PW.pt (pw_or (pt_not (pt_val (pe_callB call_isi' (by rfl) T.isinstance (by decide +kernel) (pa_cons (pv 1) (pa_cons (pe_bltn (v := .ty "tuple") (by rfl) T.tuple (by decide +kernel) rfl) pa_nil))))) (pw_or (pt_cmpR op_ne (pe_callB call_len' (by rfl) T.len (by decide +kernel) (pa_cons (pv 1) pa_nil)) (pv 0) (nomark _)) (pw_or1 (pt_not (pt_val (pe_callB (cr_all rfl) (by rfl) T.all (by decide +kernel) (pa_cons (pe_lc (own := [("at", 2)]) (g := (gName 2)) (tt := tYes) rfl sc_check_barriers.nd (pi_tup (pv 1)) (blkOk_by (own := [("at", 2)]) (N := N_check_barriers) (sc := defScope s_check_barriers) (by decide +kernel)) (fun _ _ _ _ _ => pg_name (i := 2) sc_check_barriers.nd rfl (Or.inl rfl)) (fun _ _ _ _ _ => pts_nil) (fun _ _ _ _ _ => (pe_callB (call_isiK (K := K) rfl) (by rfl) T.isinstance (by decide +kernel) (pa_cons (pv 2) (pa_cons (pe_bltn (v := .ty "bool") (by rfl) T.bool (by decide +kernel) rfl) pa_nil))))) pa_nil))))))))
      (pss_one (ps_raise rfl (takes_of rfl rfl rfl rfl) (pmk_own PySem.F.excBase_ValueError XB.xP XB.gP XB.kP (raises_own XB.bP XB.tP) rfl)))
      pss_nil)), ?_⟩
  have no : ∀ tn, Ty K H v tn → isB tn "tuple" = false → (∀ ds, d ≠ .tuple ds) → E (.ref IB) none H := fun tn ty h nd => k1 (by
    unfold barQ
    split
    · exact absurd rfl (nd _)
    · rfl) H (Same.refl H)
  rcases dx_tup_or hv with ⟨a, xs, ds, rfl, ha, rfl, t⟩ | ⟨tn, ty, h, nd⟩
  · refine ⟨_, rfl, _, "tuple", "tuple", rfl, ty_tX ha, by decide, _, rfl, ?_⟩
    rw [show isB "tuple" "tuple" = true by decide]
    refine iteF ⟨_, rfl, a, _, rfl, .inr ha, _, rfl, rfl, _, rfl, ite2 (fun z => ?_) (fun z => ?_)⟩
    · refine k1 ?_ H (Same.refl H)
      have : ds.length ≠ n := fun e => by rw [t.len, e] at z; simp at z
      show (decide (ds.length = n) && _) = false
      rw [decide_eq_false this]
      rfl
    have hl : ds.length = n := by
      have z' : V.int (xs.length : Nat) = V.int (n : Nat) := by simpa using z
      injection z' with z'
      rw [← t.len]
      omega
    have lx : xs.length ≤ 1000 := by
      rw [t.len]
      exact lv ds (.inl rfl)
    refine ⟨_, rfl, a, rfl, ⟨_, SqT.of ha⟩, fun D hD => lc_tup (K := K) (a := a) (xs := xs) (fun i H' => Same H H' ∧ H' D = some (.lst (((ds.take i).map boolQ).map V.bl))) ?_ ?_ ?_ ?_⟩
    · exact ⟨same_new hD, upd_same⟩
    · rintro i H' _ ⟨s1, _⟩
      exact SqT.of (s1 _ _ ha)
    · rintro i y H' hy ⟨s1, h1⟩
      have i1 : i < xs.length := (List.getElem?_eq_some_iff.mp hy).1
      obtain ⟨dy, hd, qy⟩ := t.at hy
      obtain ⟨ty, tyy, eb⟩ := dx_bool (Dx.same s1 qy)
      refine ⟨rfl, _, rfl, _, ty, "bool", rfl, tyy, by decide, ?_⟩
      rw [eb]
      refine ⟨_, h1, szl (by rw [List.length_map, List.length_map, List.length_take]; omega), same_mut s1 hD, ?_⟩
      rw [upd_same, List.take_add_one, hd, List.map_append, List.map_append]
      rfl
    · rintro H1 ⟨s1, h1⟩
      rw [t.len, List.take_length] at h1
      refine ⟨D, _, rfl, SqL.of h1, _, rfl, ?_⟩
      have e : (ds.map boolQ).all id = ds.all boolQ := by rw [List.all_map]; rfl
      rw [e]
      have eq : barQ n (.tuple ds) = ds.all boolQ := by
        show (decide (ds.length = n) && ds.all boolQ) = _
        rw [decide_eq_true hl, Bool.true_and]
      rw [eq] at k1 k2
      cases q : ds.all boolQ with
      | false => exact k1 q H1 s1
      | true => exact k2 q H1 s1
  · refine ⟨_, rfl, _, tn, "tuple", rfl, ty, by decide, _, rfl, ?_⟩
    rw [h]
    exact no tn ty h nd
theorem ok_with_barriers {f : Addr} {fd : FuncData} (F : Fun K "_with_barriers" "_with_barriers" s_with_barriers f fd) (T : Txt mg) : FnOk P w K mg base CX0 1 f fd ["writes", "barriers"] sp_withB := by
  refine F.ok sc_with_barriers (fun vs H Q E h => ?_) (fun cdv A outer s H vs Q E hr h => ?_)
  · obtain ⟨_, _, _, _, _, rfl, _⟩ := h
    rfl
  obtain ⟨a, b, x, rs, bs, rfl, ha, hb, hl, l1, k⟩ := h
  refine ⟨_, (pss_cons (ps_set (i := 2) sc_with_barriers.nd rfl (Or.inl rfl) (pe_slice sl_list' (pv 0) po_none (po_some pe_int)))
    (pss_cons (ps_for PassesOwn.never rfl (pi_zipM rfl T.zip (pa_cons (pe_slice sl_list' (pv 0) (po_some pe_int) po_none) (pa_cons (pv 1) pa_nil))) (pg_tup rfl (pgs_cons (pg_name (i := 3) sc_with_barriers.nd rfl (Or.inl rfl)) (pgs_cons (pg_name (i := 4) sc_with_barriers.nd rfl (Or.inl rfl)) pgs_nil)))
      (pss_cons (ps_cut (ps_if (pt_val (pv 4))
      (pss_one (ps_expr (pe_bm PySem.F.plainAttrs_list PySem.F.slot_list_append PySem.F.type_list_append mt_append (pv 2) (pa_cons pe_non pa_nil))))
      pss_nil))
    (pss_one (ps_expr (pe_bm PySem.F.plainAttrs_list PySem.F.slot_list_append PySem.F.type_list_append mt_append (pv 2) (pa_cons (pv 3) pa_nil))))))
    (pss_one (ps_ret (pv 2))))), ?_⟩
  refine ⟨_, rfl, 1, rfl, a, _, rfl, ha, fun l H1 n1 s1 h1 => ?_⟩
  rw [cut_first] at h1
  refine ⟨_, rfl, 1, rfl, a, _, rfl, s1 _ _ ha, fun m H2 n2 s2 h2 => ?_⟩
  rw [cut_rest] at h2
  have hb2 := s2 _ _ (s1 _ _ hb)
  have nm : l ≠ m := ne_of_none h1 n2
  refine ⟨_, rfl, m, b, _, _, rfl, SqL.of h2, SqT.of hb2, for_zipM (K := K) (a := m) (b := b) (xs := rs) (ys := bs.map V.bl) (by rw [List.length_map]; exact hl) (fun i σ' H' => ∃ v3 v4, σ' = [some (.ref a), some (.ref b), some (.ref l), v3, v4] ∧ Same H H' ∧ H' m = some (.lst rs) ∧ H' b = some (.tup (bs.map V.bl)) ∧ H' l = some (.lst (wv x ((rs.zip bs).take i)))) ?_ ?_ ?_ ?_⟩
  · exact ⟨_, _, rfl, s1.trans s2, h2, hb2, s2 _ _ h1⟩
  · rintro i σ' H' ⟨_, _, _, _, q1, q2, _⟩
    exact ⟨SqL.of q1, SqT.of q2⟩
  · rintro i y v t σ' H' hu hv ⟨v3, v4, rfl, s3, q1, q2, q3⟩ nt
    rw [List.getElem?_map] at hv
    cases hc : bs[i]? with
    | none => rw [hc] at hv; cases hv
    | some c =>
    rw [hc] at hv
    have ev : v = .bl c := (Option.some.inj hv).symm
    subst ev
    have hz : (rs.zip bs)[i]? = some (y, c) := List.getElem?_zip_eq_some.mpr ⟨hu, hc⟩
    have e : (rs.zip bs).take (i + 1) = (rs.zip bs).take i ++ [(y, c)] := by rw [List.take_add_one, hz]; rfl
    rw [e, wv_snoc]
    have il : i < rs.length := (List.getElem?_eq_some_iff.mp hu).1
    have wl := wv_len x ((rs.zip bs).take i)
    have wl2 : ((rs.zip bs).take i).length ≤ i := by rw [List.length_take]; exact Nat.min_le_left _ _
    generalize wv x ((rs.zip bs).take i) = W at q3 wl ⊢
    have lt' : l ≠ t := fun e => by rw [e, nt] at q3; cases q3
    have mt : m ≠ t := fun e => by rw [e, nt] at q1; cases q1
    have bt : b ≠ t := fun e => by rw [e, nt] at q2; cases q2
    refine ⟨t, _, rfl, SqT.of upd_same, rfl, _, _, rfl, _, _, rfl, rfl, ?_⟩
    refine ⟨fun σ' H'' => σ' = [some (.ref a), some (.ref b), some (.ref l), some y, some (.bl c)] ∧ Same H H'' ∧ H'' m = some (.lst rs) ∧ H'' b = some (.tup (bs.map V.bl)) ∧ H'' l = some (.lst (if c then W ++ [.non] else W)), ?_, ?_⟩
    · have s4 := s3.trans (same_new (o := .tup [y, .bl c]) nt)
      have r1 : (upd H' t (.tup [y, .bl c])) m = some (.lst rs) := by rw [upd_ne mt]; exact q1
      have r2 : (upd H' t (.tup [y, .bl c])) b = some (.tup (bs.map V.bl)) := by rw [upd_ne bt]; exact q2
      have r3 : (upd H' t (.tup [y, .bl c])) l = some (.lst W) := by rw [upd_ne lt']; exact q3
      generalize upd H' t (.tup [y, .bl c]) = J at s4 r1 r2 r3
      refine ⟨_, rfl, c, rfl, ?_⟩
      cases c with
      | true =>
        refine ⟨_, rfl, .inl ⟨rfl, _, SqL.of r3⟩, l, _, _, rfl, rfl, r3, szl (by omega), rfl, same_mut s4 n1, ?_, ?_, upd_same⟩
        · rw [upd_ne nm.symm]
          exact r1
        · rw [upd_ne (ne_tl r2 r3)]
          exact r2
      | false => exact ⟨rfl, s4, r1, r2, r3⟩
    · rintro _ J ⟨rfl, s4, r1, r2, r3⟩
      refine ⟨_, rfl, .inl ⟨rfl, _, SqL.of r3⟩, _, rfl, l, _, _, rfl, rfl, r3, szl ?_, _, _, rfl, same_mut s4 n1, ?_, ?_, ?_⟩
      · cases c
        · show W.length < 100000
          omega
        · show (W ++ [V.non]).length < 100000
          rw [List.length_append]
          show W.length + 1 < 100000
          omega
      · rw [upd_ne nm.symm]
        exact r1
      · rw [upd_ne (ne_tl r2 r3)]
        exact r2
      · rw [upd_same]
        cases c
        · rfl
        · show some (HO.lst ((W ++ [V.non]) ++ [y])) = some (HO.lst (W ++ [V.non, y]))
          rw [List.append_assoc]
          rfl
  · rintro σ' H' ⟨v3, v4, rfl, s3, _, _, q3⟩
    have ez : (rs.zip bs).take rs.length = rs.zip bs := List.take_of_length_le (by rw [List.length_zip]; exact Nat.min_le_left _ _)
    rw [ez] at q3
    exact ⟨_, rfl, k l H' s3 n1 q3⟩
end
end Af

set_option Elab.async false
set_option linter.all false
set_option maxRecDepth 100000
set_option maxHeartbeats 4000000
/-! dicts of number: tuple, made by displays and by comprehensions -/
namespace Af
open PySem PySem.Spec PyProof.Rows L2
theorem pairs_go {σ : L2.St} : ∀ (l : List (Nat × Int)) (H : Hp) (Q : List (V × V) → Hp → Prop), (∀ (rows : List (L2.Key × V)) H', Same H H' → Paired (RowV H') rows (l.map fun p => (p.1, [p.2])) → Q (rows.map fun kv => (kV kv.1, kv.2)) H') → tPairs (l.map fun p => (tC (.int ((p.1 : Nat) : Int)), tTup' (tCons (tC (.int p.2)) tNil))) σ H Q
  | [], H, Q, k => k [] H (Same.refl _) .nil
  | p :: r, H, Q, k => ⟨szr, fun t H1 n s h => pairs_go r H1 _ fun rows H' s2 pr => k ((.inl ((p.1 : Nat) : Int), .ref t) :: rows) H' (s.trans s2) (.cons ⟨rfl, t, rfl, s2 _ _ h⟩ pr)⟩
theorem merge_rows : ∀ (rows acc : List (L2.Key × V)), ((acc ++ rows).map (·.1)).Nodup → mergeK acc rows = acc ++ rows
  | [], acc, _ => (List.append_nil acc).symm
  | p :: r, acc, h => by
    show mergeK (putK acc p.1 p.2) r = _
    have e : acc ++ p :: r = (acc ++ [p]) ++ r := by rw [List.append_assoc]; rfl
    have np : p.1 ∉ acc.map (·.1) := fun m => by
      rw [List.map_append, List.nodup_append] at h
      exact h.2.2 _ m _ (by rw [List.map_cons]; exact List.mem_cons_self) rfl
    rw [putK_snoc np, e]
    rw [e] at h
    exact merge_rows r _ h
theorem disp_pat {σ : L2.St} {H : Hp} {Q : VK} (l : List (Nat × Int)) (nd : ((l.map fun p => (p.1, [p.2])).map fun p => (Sum.inl ((p.1 : Nat) : Int) : L2.Key)).Nodup) (ll : l.length ≤ 15) (k : ∀ d H', Same H H' → H d = none → PatV H' d (l.map fun p => (p.1, [p.2])) → Q (.ref d) H') :
    tDisp (l.map fun p => (tC (.int ((p.1 : Nat) : Int)), tTup' (tCons (tC (.int p.2)) tNil))) σ H Q := fun p n => by
  refine pairs_go l (upd H p (.dK [])) _ fun rows H' s pr => ?_
  have hp : H' p = some (.dK []) := s _ _ upd_same
  have rl : rows.length = l.length := by rw [paired_len pr, List.length_map]
  refine ⟨hp, rows, rfl, by omega, ?_⟩
  have s0 : Same H (upd H' p (.dK (mergeK [] rows))) := fun b o e => by
    have nb : b ≠ p := fun z => by rw [z, n] at e; cases e
    rw [upd_ne nb]
    exact s _ _ (by rw [upd_ne nb]; exact e)
  refine k p _ s0 n ⟨⟨rows, ?_, L2.Paired.mapP pr fun a b ⟨e, t, e2, z⟩ => ⟨e, t, e2, ?_⟩⟩⟩
  · rw [upd_same, merge_rows rows [] (by rw [List.nil_append, rows_keys pr]; exact nd)]
    rfl
  · rw [upd_ne (fun w => by rw [w, hp] at z; cases z)]
    exact z
/-- {**d, k: v, ..} of an empty d -/
theorem spread_pat {σ : L2.St} {H : Hp} {Q : VK} {i : Nat} {d : Addr} {trs : List (TE × TE)} {ps : Ptn} (hi : σ[i]? = some (some (.ref d))) (hd : H d = some (.dK [])) (nd : (ps.map fun p => (Sum.inl ((p.1 : Nat) : Int) : L2.Key)).Nodup) (ll : ps.length ≤ 15)
    (hp : ∀ (H1 : Hp) (R : List (V × V) → Hp → Prop), Same H H1 → (∀ (rows : List (L2.Key × V)) H', Same H1 H' → Paired (RowV H') rows ps → R (rows.map fun kv => (kV kv.1, kv.2)) H') → tPairs trs σ H1 R)
    (k : ∀ p H', Same H H' → H p = none → PatV H' p ps → Q (.ref p) H') : tSpread (tVar i) trs σ H Q := fun p n => by
  have dp : d ≠ p := fun e => by rw [e, n] at hd; cases hd
  refine ⟨.ref d, hi, d, [], rfl, dp, (by rw [upd_ne dp]; exact hd), upd_same, by decide, fun p2 n2 => ?_⟩
  have p2p : p2 ≠ p := fun e => by rw [e, upd_same] at n2; cases n2
  rw [upd_ne p2p] at n2
  have s0 : Same H (upd (upd (upd H p (.dK [])) p (.dK [])) p2 (.dK [])) := same_mut (same_mut (same_new n) n) n2
  have e1 : (upd (upd (upd H p (.dK [])) p (.dK [])) p2 (.dK [])) p = some (.dK []) := by rw [upd_ne p2p.symm, upd_same]
  have e2 : (upd (upd (upd H p (.dK [])) p (.dK [])) p2 (.dK [])) p2 = some (.dK []) := upd_same
  refine hp _ _ s0 fun rows H' s pr => ?_
  have rl := paired_len pr
  have m1 : mergeK [] rows = rows := merge_rows rows [] (by rw [List.nil_append, rows_keys pr]; exact nd)
  refine ⟨s _ _ e1, s _ _ e2, rows, rfl, by omega, ?_⟩
  rw [m1, m1]
  refine k p _ (same_mut (same_mut (s0.trans s) n2) n) n ⟨⟨rows, upd_same, L2.Paired.mapP pr fun a b ⟨e, t, q, z⟩ => ⟨e, t, q, ?_⟩⟩⟩
  rw [upd_ne (fun w => by rw [w, s _ _ e1] at z; cases z), upd_ne (fun w => by rw [w, s _ _ e2] at z; cases z)]
  exact z
/-- a dict comprehension over a list that stays -/
theorem dc_lst {K : PySem.W.Frag} {a : Addr} {xs : List V} {g : TG} {tt : TT} {tk tv : TE} {vs : List Nat} {σ : L2.St} {H1 : Hp} {D : Addr} {Qd : Hp → Prop} (Pv : Nat → Hp → Prop) (h0 : Pv 0 (upd H1 D (.dK []))) (hl : ∀ i H, Pv i H → SqL K H a xs)
    (hs : ∀ i x H, xs[i]? = some x → Pv i H → g x (wipe σ vs) H fun σ2 H2 => wipe σ2 vs = wipe σ vs ∧ tt σ2 H2 fun b H3 =>
      if b = true then tk σ2 H3 fun y H4 => tv σ2 H4 fun z H5 => ∃ kvs k, y = kV k ∧ H5 D = some (.dK kvs) ∧ kvs.length < sizeLine ∧ Pv (i + 1) (upd H5 D (.dK (putK kvs k z))) else Pv (i + 1) H3) (hd : ∀ H, Pv xs.length H → Qd H) :
    ∃ W : Nat → Nat → Hp → Prop, (∃ m, W 0 m (upd H1 D (.dK []))) ∧ ∀ i m H, W i m H →
      ((Itl K a).stop i H ∧ Qd H) ∨ ((Itl K a).go i H ∧ ∃ Nx : Hp → Prop, (∀ H', Nx H' → ∃ m', m' < m ∧ W (i + 1) m' H') ∧ ∀ x H', (Itl K a).yld i H x H' → g x (wipe σ vs) H' fun σ2 H2 => wipe σ2 vs = wipe σ vs ∧ tt σ2 H2 fun b H3 =>
        if b = true then tk σ2 H3 fun y H4 => tv σ2 H4 fun z H5 => ∃ kvs k, y = kV k ∧ H5 D = some (.dK kvs) ∧ kvs.length < sizeLine ∧ Nx (upd H5 D (.dK (putK kvs k z))) else Nx H3) := by
  refine ⟨fun i m H => (m = xs.length - i ∧ i ≤ xs.length) ∧ Pv i H, ⟨xs.length, ⟨rfl, Nat.zero_le _⟩, h0⟩, ?_⟩
  rintro i m H ⟨⟨rfl, hi⟩, pv⟩
  have q := hl i H pv
  rcases Nat.lt_or_ge i xs.length with lt | ge
  · refine .inr ⟨⟨xs, _, q, List.getElem?_eq_getElem lt⟩, Pv (i + 1), fun H' p' => ⟨xs.length - (i + 1), by omega, ⟨rfl, lt⟩, p'⟩, ?_⟩
    rintro x H' ⟨rfl, f⟩
    exact hs i x _ (f xs q) pv
  · have e : i = xs.length := Nat.le_antisymm hi ge
    subst e
    exact .inl ⟨⟨xs, q, Nat.le_refl _⟩, hd H pv⟩
end Af

set_option Elab.async false
set_option linter.all false
set_option maxRecDepth 100000
set_option maxHeartbeats 4000000
/-! {**d, k: v, ..} of a d that isn't empty; a dict that is made anew by its keys -/
namespace Af
open PySem PySem.Spec PyProof.Rows L2
theorem spread_patG {σ : L2.St} {H : Hp} {Q : VK} {i : Nat} {d : Addr} {trs : List (TE × TE)} {ps0 ps : Ptn} (hi : σ[i]? = some (some (.ref d))) (hd : PatV H d ps0) (nd : ((ps0 ++ ps).map fun p => (Sum.inl ((p.1 : Nat) : Int) : L2.Key)).Nodup) (l0 : ps0.length ≤ 1000) (ll : ps.length ≤ 15)
    (hp : ∀ (H1 : Hp) (R : List (V × V) → Hp → Prop), Same H H1 → (∀ (rows : List (L2.Key × V)) H', Same H1 H' → Paired (RowV H') rows ps → R (rows.map fun kv => (kV kv.1, kv.2)) H') → tPairs trs σ H1 R)
    (k : ∀ p H', Same H H' → H p = none → PatV H' p (ps0 ++ ps) → Q (.ref p) H') : tSpread (tVar i) trs σ H Q := fun p n => by
  obtain ⟨rows0, hd, pr0⟩ := hd.ex
  have dp : d ≠ p := fun e => by rw [e, n] at hd; cases hd
  refine ⟨.ref d, hi, d, rows0, rfl, dp, (by rw [upd_ne dp]; exact hd), upd_same, by rw [paired_len pr0]; exact l0, fun p2 n2 => ?_⟩
  have p2p : p2 ≠ p := fun e => by rw [e, upd_same] at n2; cases n2
  rw [upd_ne p2p] at n2
  have s0 : Same H (upd (upd (upd H p (.dK [])) p (.dK rows0)) p2 (.dK [])) := same_mut (same_mut (same_new n) n) n2
  have e1 : (upd (upd (upd H p (.dK [])) p (.dK rows0)) p2 (.dK [])) p = some (.dK rows0) := by rw [upd_ne p2p.symm, upd_same]
  have e2 : (upd (upd (upd H p (.dK [])) p (.dK rows0)) p2 (.dK [])) p2 = some (.dK []) := upd_same
  refine hp _ _ s0 fun rows H' s pr => ?_
  have rl := paired_len pr
  rw [List.map_append] at nd
  have m1 : mergeK [] rows = rows := merge_rows rows [] (by rw [List.nil_append, rows_keys pr]; exact (List.nodup_append.mp nd).2.1)
  have m2 : mergeK rows0 rows = rows0 ++ rows := merge_rows rows rows0 (by rw [List.map_append, rows_keys pr, rows_keys pr0]; exact nd)
  refine ⟨s _ _ e1, s _ _ e2, rows, rfl, by omega, ?_⟩
  rw [m1, m2]
  have all := paired_app (rows_same (s0.trans s) pr0) pr
  refine k p _ (same_mut (same_mut (s0.trans s) n2) n) n ⟨⟨rows0 ++ rows, upd_same, L2.Paired.mapP all fun a b ⟨e, t, q, z⟩ => ⟨e, t, q, ?_⟩⟩⟩
  rw [upd_ne (fun w => by rw [w, s _ _ e1] at z; cases z), upd_ne (fun w => by rw [w, s _ _ e2] at z; cases z)]
  exact z
/-- a comprehension that takes the entries of a dict anew, in the order of a list of its keys -/
theorem dc_keys {K : PySem.W.Frag} {c h : Nat} {q p : Addr} {es : List (Int × Addr)} {vs : List Nat} {σ : L2.St} {H : Hp} {rows : List (L2.Key × V)} {R : Addr → Hp → Prop} (hq : H q = some (.lst (es.map fun e => V.int e.1))) (hp : H p = some (.dK rows)) (nd : (es.map (·.1)).Nodup) (le : es.length ≤ 1000)
    (va : ∀ e ∈ es, valV rows (.inl e.1 : L2.Key) = some (.ref e.2)) (hw : ∀ x, wipe ((wipe σ vs).set c (some x)) vs = wipe σ vs) (hh : ∀ x, ((wipe σ vs).set c (some x))[h]? = some (some (.ref p))) (hc : ∀ x, ((wipe σ vs).set c (some x))[c]? = some (some x))
    (k : ∀ D H', Same H H' → H D = none → H' D = some (.dK (es.map fun e => ((.inl e.1 : L2.Key), V.ref e.2))) → R D H') :
    ∀ D, H D = none → ∃ W : Nat → Nat → Hp → Prop, (∃ m, W 0 m (upd H D (.dK []))) ∧ ∀ i m H, W i m H →
      ((Itl K q).stop i H ∧ R D H) ∨ ((Itl K q).go i H ∧ ∃ Nx : Hp → Prop, (∀ H', Nx H' → ∃ m', m' < m ∧ W (i + 1) m' H') ∧ ∀ x H', (Itl K q).yld i H x H' → (gName c) x (wipe σ vs) H' fun σ2 H2 => wipe σ2 vs = wipe σ vs ∧ tYes σ2 H2 fun b H3 =>
        if b = true then (tVar c) σ2 H3 fun y H4 => (tDGet (tVar h) (tVar c)) σ2 H4 fun z H5 => ∃ kvs k, y = kV k ∧ H5 D = some (.dK kvs) ∧ kvs.length < sizeLine ∧ Nx (upd H5 D (.dK (putK kvs k z))) else Nx H3) := fun D n => by
  refine dc_lst (K := K) (a := q) (xs := es.map fun e => V.int e.1) (fun i H' => Same H H' ∧ H' D = some (.dK ((es.take i).map fun e => ((.inl e.1 : L2.Key), V.ref e.2)))) ⟨same_new n, upd_same⟩ (fun i H' ⟨s, _⟩ => SqL.of (s _ _ hq)) (fun i x H' hx ⟨s, hD⟩ => ?_) (fun H' ⟨s, hD⟩ => k D H' s n (by rw [List.length_map, List.take_length] at hD; exact hD))
  rw [List.getElem?_map] at hx
  cases he : es[i]? with
  | none => rw [he] at hx; cases hx
  | some e =>
  rw [he] at hx
  have ex : x = .int e.1 := (Option.some.inj hx).symm
  subst ex
  refine ⟨hw _, _, hc _, .ref p, hh _, _, hc _, p, .ref e.2, rfl, .inl ⟨rows, .inl e.1, .inl (s _ _ hp), rfl, (va e (List.mem_of_getElem? he)).symm⟩, _, .inl e.1, rfl, hD, szl ?_, same_mut s n, ?_⟩
  · rw [List.length_map, List.length_take]
    omega
  · have il : i < es.length := (List.getElem?_eq_some_iff.mp he).1
    rw [upd_same, putK_snoc, List.take_add_one, he, List.map_append]
    · rfl
    · intro m
      rw [List.map_map] at m
      obtain ⟨e', he', q'⟩ := List.mem_map.mp m
      have q'' : e'.1 = e.1 := Sum.inl.inj q'
      obtain ⟨j, hj⟩ := List.getElem?_of_mem he'
      have jl : j < i := by
        have := (List.getElem?_eq_some_iff.mp hj).1
        rw [List.length_take] at this
        omega
      rw [List.getElem?_take_of_lt jl] at hj
      have a1 : (es.map (·.1))[j]? = some e.1 := by rw [List.getElem?_map, hj, ← q'']; rfl
      have a2 : (es.map (·.1))[i]? = some e.1 := by rw [List.getElem?_map, he]; rfl
      have := (List.getElem?_inj (i := j) (j := i) (by rw [List.length_map]; omega) nd).mp (a1.trans a2.symm)
      omega
end Af

set_option Elab.async false
set_option linter.all false
set_option maxRecDepth 100000
set_option maxHeartbeats 8000000
namespace Af
open PySem L2
abbrev s_mixed : Stmt := top 35
abbrev N_mixed : List Str := ["olds", "news", "first", "while_so", "changing", "guards", "old", "new", "held", "at", "cell"]
theorem sc_mixed : FnScope N_mixed ["olds", "news", "first", "while_so"] (defScope s_mixed) := ⟨rfl, rfl, rfl, by decide +kernel, rfl, by decide +kernel, by decide +kernel⟩

def nvs (ls : List Nat) : List V := ls.map fun p => V.int ((p : Nat) : Int)
theorem nvs_app {a b : List Nat} : nvs (a ++ b) = nvs a ++ nvs b := List.map_append
theorem nvs_get {l : List Nat} {i : Nat} {y : V} (h : (nvs l)[i]? = some y) : ∃ n, l[i]? = some n ∧ y = .int ((n : Nat) : Int) := by
  unfold nvs at h
  rw [List.getElem?_map] at h
  cases e : l[i]? with
  | none => rw [e] at h; cases h
  | some n => rw [e] at h; exact ⟨n, rfl, (Option.some.inj h).symm⟩
def gI (l : List Int) (i : Nat) : Int := l.getD i 0
def PatE (H : Hp) (x : V) (ps : Ptn) : Prop := ∃ a, x = .ref a ∧ PatV H a ps
theorem PatE.kp {p : Addr} {H H' : Hp} {x : V} {ps : Ptn} (k : Kp p H H') (h : PatE H x ps) : PatE H' x ps := by
  obtain ⟨a, e, h⟩ := h
  exact ⟨a, e, h.kp k⟩
theorem PatE.same {H H' : Hp} {x : V} {ps : Ptn} (s : Same H H') (h : PatE H x ps) : PatE H' x ps := h.kp (p := 0) (Kp.same s)
/-- a list of patterns -/
def GuV (H : Hp) (g : Addr) (gs : List Ptn) : Prop := ∃ xs, H g = some (.lst xs) ∧ Paired (PatE H) xs gs
/-- two cells, in their order -/
def pat2 (k : Nat) (u : Int) (j : Nat) (v : Int) : Ptn := if k < j then [(k, [u]), (j, [v])] else [(j, [v]), (k, [u])]
def chgL (os ns : List Int) (l : List Nat) : List Nat := l.filter fun i => decide (gI os i ≠ gI ns i)
def pat3 (sw fs k : Nat) (u : Int) (j : Nat) (v : Int) : Ptn := (sw, [0]) :: pat2 (fs + k) u (fs + j) v
def mixI (os ns : List Int) (sw fs k : Nat) (l : List Nat) : List Ptn := (l.filter fun j => decide (k ≠ j)).map fun j => pat3 sw fs k (gI os k) j (gI ns j)
def mixO (os ns : List Int) (sw fs : Nat) (c l : List Nat) : List Ptn := l.flatMap fun k => mixI os ns sw fs k c
def mixL (os ns : List Int) (sw fs : Nat) : List Ptn := mixO os ns sw fs (chgL os ns (List.range os.length)) (chgL os ns (List.range os.length))
theorem mixI_len (os ns : List Int) (sw fs k : Nat) (l : List Nat) : (mixI os ns sw fs k l).length ≤ l.length := by
  unfold mixI
  rw [List.length_map]
  exact List.length_filter_le _ _
theorem mixO_len (os ns : List Int) (sw fs : Nat) (c : List Nat) : ∀ l : List Nat, (mixO os ns sw fs c l).length ≤ l.length * c.length
  | [] => Nat.zero_le _
  | k :: l => by
    have ih := mixO_len os ns sw fs c l
    have h := mixI_len os ns sw fs k c
    unfold mixO at ih ⊢
    rw [List.flatMap_cons, List.length_append, List.length_cons, Nat.succ_mul]
    omega
theorem srt_uniq : ∀ {a b : List Int}, a.Perm b → a.Pairwise (· ≤ ·) → b.Pairwise (· ≤ ·) → a = b
  | [], b, p, _, _ => (List.nil_perm.mp p).symm
  | x :: xs, b, p, ha, hb => by
    cases b with
    | nil => exact absurd p.length_eq (by simp)
    | cons y ys =>
      have e : x = y := by
        have m1 : x ∈ y :: ys := p.mem_iff.mp List.mem_cons_self
        have m2 : y ∈ x :: xs := p.mem_iff.mpr List.mem_cons_self
        rcases List.mem_cons.mp m1 with e | m1
        · exact e
        · rcases List.mem_cons.mp m2 with e | m2
          · exact e.symm
          · have := (List.pairwise_cons.mp ha).1 y m2
            have := (List.pairwise_cons.mp hb).1 x m1
            omega
      subst e
      rw [srt_uniq p.cons_inv (List.pairwise_cons.mp ha).2 (List.pairwise_cons.mp hb).2]
theorem atG {l : List Int} {k : Nat} (h : k < l.length) : atI (ivs l) (k : Int) = some (.int (gI l k)) := atI_nat (j := k) (ivs_at h)
theorem at0 {l : List Int} {k : Nat} (h : k < l.length) : atI (ivs l) (0 + (k : Int)) = some (.int (gI l k)) := by
  rw [Int.zero_add]
  exact atG h
theorem iteT' {c : Bool} {p q : Prop} (h : c = true) (k : p) : if c = true then p else q := by rw [if_pos h]; exact k
theorem iteF' {c : Bool} {p q : Prop} (h : c = false) (k : q) : if c = true then p else q := by rw [if_neg (by rw [h]; decide)]; exact k
def sp_mixed : Sp := fun vs H Q _ => ∃ (a b d : Addr) (os ns : List Int) (sw fs : Nat), vs = [.ref a, .ref b, .int (fs : Nat), .ref d] ∧ H a = some (.tup (ivs os)) ∧ H b = some (.tup (ivs ns)) ∧ PatV H d [(sw, [0])] ∧ sw < fs ∧ os.length = ns.length ∧ os.length ≤ 7 ∧ ∀ g H', Same H H' → H g = none → GuV H' g (mixL os ns sw fs) → Q (.ref g) H'
section
variable {P : Program} {w : World} {K : PySem.W.Frag} {mg : Str → Option Value} {base : Heap}
theorem ok_mixed {f : Addr} {fd : FuncData} (F : Fun K "_mixed" "_mixed" s_mixed f fd) (T : Txt mg) (t_sorted : mg "sorted" = none) : FnOk P w K mg base CX0 1 f fd ["olds", "news", "first", "while_so"] sp_mixed := by
  refine F.ok sc_mixed (fun vs H Q E h => ?_) (fun cdv A outer s H vs Q E hr h => ?_)
  · obtain ⟨_, _, _, _, _, _, _, rfl, _⟩ := h
    rfl
  obtain ⟨a, b, d, os, ns, sw, fs, rfl, ha, hb, hd, swf, hl, l7, k⟩ := h
  refine ⟨_, (pss_cons (ps_setLc (i := 4) (own := [("at", 9)]) (g := (gName 9)) rfl sc_mixed.nd rfl rfl (sw_true rfl rfl rfl (by decide +kernel)) (pi_range1 rfl T.range (pa_cons (pe_callB call_len' (by rfl) T.len (by decide +kernel) (pa_cons (pv 0) pa_nil)) pa_nil)) (blkOk_by (own := [("at", 9)]) (N := N_mixed) (sc := defScope s_mixed) (by decide +kernel)) (fun _ _ _ _ _ => pg_name (i := 9) sc_mixed.nd rfl (Or.inl rfl)) (fun _ _ _ _ _ => (pts_one (pt_cmpR op_ne (pe_ix ix_seq' (pv 0) (pv 9) (fun _ _ => rfl)) (pe_ix ix_seq' (pv 1) (pv 9) (fun _ _ => rfl)) (nomark _)))) (fun _ _ _ _ _ => (pv 9)))
    (pss_cons (ps_set (i := 5) sc_mixed.nd rfl (Or.inl rfl) (pe_lst' pa_nil))
    (pss_cons (ps_for PassesOwn.never rfl (pi_list (pv 4)) (pg_name (i := 6) sc_mixed.nd rfl (Or.inl rfl))
      (pss_one (ps_for PassesOwn.never rfl (pi_list (pv 4)) (pg_name (i := 7) sc_mixed.nd rfl (Or.inl rfl))
      (pss_one (ps_if (pt_cmpR op_ne (pv 6) (pv 7) (nomark _))
      (pss_cons (ps_set (i := 8) sc_mixed.nd rfl (Or.inr rfl) (pe_spread (pv 3) (pps_cons (pe_op op_add (pv 2) (pv 6)) (pe_tup' (pa_cons (pe_ix ix_seq' (pv 0) (pv 6) (fun _ _ => rfl)) pa_nil)) (pps_cons (pe_op op_add (pv 2) (pv 7)) (pe_tup' (pa_cons (pe_ix ix_seq' (pv 1) (pv 7) (fun _ _ => rfl)) pa_nil)) pps_nil)) rfl rfl (by simp) (by decide)))
    (pss_one (ps_expr (pe_bm PySem.F.plainAttrs_list PySem.F.slot_list_append PySem.F.type_list_append mt_append (pv 5) (pa_cons (pe_dc (own := [("cell", 10)]) (g := (gName 10)) (tt := tYes) rfl sc_mixed.nd (pi_list (pe_callB (call_sortedDI rfl) (by rfl) t_sorted (by decide +kernel) (pa_cons (pv 8) pa_nil))) (blkOk_by (own := [("cell", 10)]) (N := N_mixed) (sc := defScope s_mixed) (by decide +kernel)) (fun _ _ _ _ _ => pg_name (i := 10) sc_mixed.nd rfl (Or.inl rfl)) (fun _ _ _ _ _ => pts_nil) (fun _ _ _ _ _ => (pv 10)) (fun _ _ _ _ _ => (pe_dget hr.u1 (pv 8) (pv 10) (fun _ _ => rfl)))) pa_nil)))))
      pss_nil)))))
    (pss_one (ps_ret (pv 5)))))), ?_⟩
  refine ⟨_, rfl, a, _, rfl, .inr ha, _, rfl, ?_, ?_, fun C hC => lc_range (fun i H' => Same H H' ∧ H' C = some (.lst (nvs (chgL os ns (List.range i))))) ?_ ?_ ?_⟩
  · rw [ivs_len]; omega
  · rw [ivs_len]; omega
  · exact ⟨same_new hC, upd_same⟩
  · rintro i H' hi ⟨s1, h1⟩
    rw [ivs_len] at hi
    have hi : i < os.length := by omega
    refine ⟨rfl, _, rfl, _, rfl, a, _, _, _, rfl, rfl, .inr (s1 _ _ ha), at0 hi, _, rfl, _, rfl, b, _, _, _, rfl, rfl, .inr (s1 _ _ hb), at0 (hl ▸ hi), rfl, _, rfl, ?_⟩
    have e : chgL os ns (List.range (i + 1)) = chgL os ns (List.range i) ++ (if decide (gI os i ≠ gI ns i) = true then [i] else []) := by
      unfold chgL
      rw [List.range_succ, List.filter_append, List.filter_cons, List.filter_nil]
    rw [e]
    by_cases c : gI os i = gI ns i
    · rw [c]
      refine iteF' (by simp) ⟨s1, ?_⟩
      rw [if_neg (by simp), List.append_nil]
      exact h1
    · refine iteT' (by simp [c]) ⟨_, rfl, _, h1, szl ?_, same_mut s1 hC, ?_⟩
      · have := List.length_filter_le (fun i => decide (gI os i ≠ gI ns i)) (List.range i)
        unfold nvs chgL
        rw [List.length_map]
        rw [List.length_range] at this
        omega
      · rw [upd_same, if_pos (by simp [c]), nvs_app]
        show some (HO.lst (_ ++ [V.int (0 + (i : Int))])) = _
        rw [Int.zero_add]
        rfl
  rintro H1 ⟨s1, h1⟩
  have h1 : H1 C = some (.lst (nvs (chgL os ns (List.range os.length)))) := by
    rw [h1, ivs_len]
    rfl
  have cb : ∀ k ∈ chgL os ns (List.range os.length), k < os.length := fun k hk => List.mem_range.mp (List.mem_filter.mp hk).1
  generalize hch : chgL os ns (List.range os.length) = ch at h1 cb
  refine ⟨szr, fun g H2 n2 s2 h2 => ?_⟩
  have S2 := s1.trans s2
  have ha2 := S2 _ _ ha
  have hb2 := S2 _ _ hb
  have hd2 := hd.same S2
  have hC2 := s2 _ _ h1
  have n0 : H g = none := s1.free n2
  have gC : C ≠ g := fun e => by rw [e, n2] at h1; cases h1
  refine ⟨_, rfl, C, rfl, ⟨_, SqL.of hC2⟩, for_list (K := K) (a := C) (xs := nvs ch) (fun i σ' H' => ∃ v6 v7 v8 xs, σ' = [some (.ref a), some (.ref b), some (.int (fs : Nat)), some (.ref d), some (.ref C), some (.ref g), v6, v7, v8, none, none] ∧ Kp g H2 H' ∧ H' g = some (.lst xs) ∧ Paired (PatE H') xs (mixO os ns sw fs ch (ch.take i))) ?_ ?_ ?_ ?_⟩
  · exact ⟨_, _, _, [], rfl, Kp.refl, h2, .nil⟩
  · rintro i σ' H' _ ⟨_, _, _, _, _, kp, _⟩
    exact SqL.of (kp.lst gC hC2)
  · rintro i x σ' H' hx ⟨v6, v7, v8, xs, rfl, kp, hg, pg⟩
    obtain ⟨ko, hko, rfl⟩ := nvs_get hx
    have kb := cb ko (List.mem_of_getElem? hko)
    refine ⟨_, rfl, C, rfl, ⟨_, SqL.of (kp.lst gC hC2)⟩, for_list (K := K) (a := C) (xs := nvs ch) (fun j σ' H' => ∃ v7 v8 xs, σ' = [some (.ref a), some (.ref b), some (.int (fs : Nat)), some (.ref d), some (.ref C), some (.ref g), some (.int ((ko : Nat) : Int)), v7, v8, none, none] ∧ Kp g H2 H' ∧ H' g = some (.lst xs) ∧ Paired (PatE H') xs (mixO os ns sw fs ch (ch.take i) ++ mixI os ns sw fs ko (ch.take j))) ?_ ?_ ?_ ?_⟩
    · exact ⟨_, _, xs, rfl, kp, hg, by rw [List.take_zero]; show Paired _ _ (_ ++ []); rw [List.append_nil]; exact pg⟩
    · rintro j σ' H' _ ⟨_, _, _, _, kp, _⟩
      exact SqL.of (kp.lst gC hC2)
    · rintro j x σ' H' hx ⟨v7, v8, xs, rfl, kp, hg, pg⟩
      obtain ⟨jo, hjo, rfl⟩ := nvs_get hx
      have jb := cb jo (List.mem_of_getElem? hjo)
      have e : mixI os ns sw fs ko (ch.take (j + 1)) = mixI os ns sw fs ko (ch.take j) ++ (if decide (ko ≠ jo) = true then [pat3 sw fs ko (gI os ko) jo (gI ns jo)] else []) := by
        unfold mixI
        rw [List.take_add_one, hjo, List.filter_append, List.map_append]
        congr 1
        simp only [Option.toList_some, List.filter_cons, List.filter_nil]
        split <;> rfl
      rw [e]
      refine ⟨_, rfl, _, rfl, rfl, _, rfl, ?_⟩
      by_cases c : ko = jo
      · subst c
        refine iteF' (by simp) ⟨_, _, xs, rfl, kp, hg, ?_⟩
        rw [if_neg (by simp), List.append_nil]
        exact pg
      · refine iteT' (by simp; omega) ?_
        rw [if_pos (by simp [c]), ← List.append_assoc]
        have ha' := kp.tup ha2
        have hb' := kp.tup hb2
        have hd' : PatV H' d [(sw, [0])] := hd2.kp kp
        dsimp only [tSeq, tAsg]
        refine spread_patG (ps0 := [(sw, [0])]) (ps := [(fs + ko, [gI os ko]), (fs + jo, [gI ns jo])]) rfl hd' ?_ (by show 1 ≤ 1000; decide) (by show 2 ≤ 15; decide) (fun I R sI kk => ?_) (fun p H3 s3 n3 pv => ?_)
        · simp
          omega
        · refine ⟨_, rfl, _, rfl, _, _, rfl, rfl, _, rfl, _, rfl, a, _, _, _, rfl, rfl, .inr (sI _ _ ha'), atG kb, szr, fun t1 I1 n1 r1 q1 => ⟨_, rfl, _, rfl, _, _, rfl, rfl, _, rfl, _, rfl, b, _, _, _, rfl, rfl, .inr (r1 _ _ (sI _ _ hb')), atG (hl ▸ jb), szr, fun t2 I2 n2 r2 q2 => ?_⟩⟩
          have z : ∀ n : Nat, V.int ((fs : Int) + (n : Int)) = V.int (((fs + n : Nat)) : Int) := fun n => congrArg V.int (by omega)
          show R [(V.int ((fs : Int) + (ko : Int)), V.ref t1), (V.int ((fs : Int) + (jo : Int)), V.ref t2)] I2
          rw [z, z]
          exact kk [(.inl ((fs + ko : Nat) : Int), .ref t1), (.inl ((fs + jo : Nat) : Int), .ref t2)] I2 (r1.trans r2) (.cons ⟨rfl, t1, rfl, r2 _ _ q1⟩ (.cons ⟨rfl, t2, rfl, q2⟩ .nil))
        obtain ⟨rows, hr3, pr⟩ := pv.ex
        have hg3 := s3 _ _ hg
        match rows, pr, hr3 with
        | [(k0, x0), (k1, x1), (k2, x2)], .cons ⟨e0, t0, d0, ht0⟩ (.cons ⟨e1, t1, e2, ht1⟩ (.cons ⟨f1, t2, f2, ht2⟩ .nil)), hr3 =>
        simp only at e0 d0 e1 e2 f1 f2
        subst e0 d0 e1 e2 f1 f2
        refine ⟨_, rfl, .inl ⟨rfl, _, SqL.of hg3⟩, _, rfl, p, _, [((sw : Nat) : Int), ((fs + ko : Nat) : Int), ((fs + jo : Nat) : Int)], rfl, .inl hr3, rfl, (show 3 < 64 by decide), fun ys q pm pw nq => ⟨q, rfl, ⟨_, SqL.of upd_same⟩, ?_⟩⟩
        have pq : p ≠ q := fun e => by rw [e, nq] at hr3; cases hr3
        have sq : Same H3 (upd H3 q (.lst (ys.map V.int))) := same_new nq
        have xl : xs.length < 100000 := by
          rw [paired_len pg, List.length_append]
          have l1 : ch.length ≤ 7 := by
            rw [← hch]
            unfold chgL
            have := List.length_filter_le (fun i => decide (gI os i ≠ gI ns i)) (List.range os.length)
            rw [List.length_range] at this
            omega
          have l2 := mixO_len os ns sw fs ch (ch.take i)
          have l3 := mixI_len os ns sw fs ko (ch.take j)
          have l4 : (ch.take i).length ≤ 7 := by rw [List.length_take]; omega
          have l5 : (ch.take j).length ≤ 7 := by rw [List.length_take]; omega
          have l6 := Nat.mul_le_mul l4 l1
          omega
        have last : ∀ {D : Addr} {H5 : Hp}, Same H3 H5 → PatV H5 D (pat3 sw fs ko (gI os ko) jo (gI ns jo)) → H5 g = some (.lst xs) ∧ Kp g H2 (upd H5 g (.lst (xs ++ [V.ref D]))) ∧ Paired (PatE (upd H5 g (.lst (xs ++ [V.ref D])))) (xs ++ [V.ref D]) (mixO os ns sw fs ch (ch.take i) ++ mixI os ns sw fs ko (ch.take j) ++ [pat3 sw fs ko (gI os ko) jo (gI ns jo)]) := fun {D H5} s5 pd => by
          have hg5 := s5 _ _ hg3
          exact ⟨hg5, (kp.trans (Kp.same (s3.trans s5))).trans (kp_upd hg5), L2.Paired.mapP (paired_app (L2.Paired.mapP pg fun _ _ z => z.same (s3.trans s5)) (.cons ⟨D, rfl, pd⟩ .nil)) fun _ _ z => z.kp (kp_upd hg5)⟩
        rcases Nat.lt_or_ge ko jo with lt | ge
        · have ey : ys = [((sw : Nat) : Int), ((fs + ko : Nat) : Int), ((fs + jo : Nat) : Int)] := srt_uniq pm pw (by simp; omega)
          subst ey
          have pq' : (upd H3 q (.lst (List.map V.int [((sw : Nat) : Int), ((fs + ko : Nat) : Int), ((fs + jo : Nat) : Int)]))) p = some (.dK [(.inl ((sw : Nat) : Int), .ref t0), (.inl ((fs + ko : Nat) : Int), .ref t1), (.inl ((fs + jo : Nat) : Int), .ref t2)]) := (upd_ne pq).trans hr3
          refine dc_keys (K := K) (c := 10) (h := 8) (vs := [10]) (p := p) (es := [(((sw : Nat) : Int), t0), (((fs + ko : Nat) : Int), t1), (((fs + jo : Nat) : Int), t2)]) upd_same pq' (by simp; omega) (show 3 ≤ 1000 by decide) (fun e he => ?_) ?_ ?_ ?_ (fun D H5 s5 n5 h5 => ?_)
          · simp only [List.mem_cons, List.not_mem_nil, or_false] at he
            rcases he with rfl | rfl | rfl
            · exact valV_pos rfl
            · exact (valV_neg (by simp; omega)).trans (valV_pos rfl)
            · exact (valV_neg (by simp; omega)).trans ((valV_neg (by simp; omega)).trans (valV_pos rfl))
          · exact fun x => rfl
          · exact fun x => rfl
          · exact fun x => rfl
          have pd : PatV H5 D (pat3 sw fs ko (gI os ko) jo (gI ns jo)) := by
            unfold pat3 pat2
            rw [if_pos (by omega)]
            exact .mk ⟨_, h5, .cons ⟨rfl, t0, rfl, s5 _ _ (sq _ _ ht0)⟩ (.cons ⟨rfl, t1, rfl, s5 _ _ (sq _ _ ht1)⟩ (.cons ⟨rfl, t2, rfl, s5 _ _ (sq _ _ ht2)⟩ .nil))⟩
          obtain ⟨q1, q2, q3⟩ := last (sq.trans s5) pd
          exact ⟨g, _, _, rfl, rfl, q1, szl xl, _, _, _, rfl, q2, upd_same, q3⟩
        · have ey : ys = [((sw : Nat) : Int), ((fs + jo : Nat) : Int), ((fs + ko : Nat) : Int)] := srt_uniq (pm.trans (.cons _ (List.Perm.swap _ _ []))) pw (by simp; omega)
          subst ey
          have pq' : (upd H3 q (.lst (List.map V.int [((sw : Nat) : Int), ((fs + jo : Nat) : Int), ((fs + ko : Nat) : Int)]))) p = some (.dK [(.inl ((sw : Nat) : Int), .ref t0), (.inl ((fs + ko : Nat) : Int), .ref t1), (.inl ((fs + jo : Nat) : Int), .ref t2)]) := (upd_ne pq).trans hr3
          refine dc_keys (K := K) (c := 10) (h := 8) (vs := [10]) (p := p) (es := [(((sw : Nat) : Int), t0), (((fs + jo : Nat) : Int), t2), (((fs + ko : Nat) : Int), t1)]) upd_same pq' (by simp; omega) (show 3 ≤ 1000 by decide) (fun e he => ?_) ?_ ?_ ?_ (fun D H5 s5 n5 h5 => ?_)
          · simp only [List.mem_cons, List.not_mem_nil, or_false] at he
            rcases he with rfl | rfl | rfl
            · exact valV_pos rfl
            · exact (valV_neg (by simp; omega)).trans ((valV_neg (by simp; omega)).trans (valV_pos rfl))
            · exact (valV_neg (by simp; omega)).trans (valV_pos rfl)
          · exact fun x => rfl
          · exact fun x => rfl
          · exact fun x => rfl
          have pd : PatV H5 D (pat3 sw fs ko (gI os ko) jo (gI ns jo)) := by
            unfold pat3 pat2
            rw [if_neg (by omega)]
            exact .mk ⟨_, h5, .cons ⟨rfl, t0, rfl, s5 _ _ (sq _ _ ht0)⟩ (.cons ⟨rfl, t2, rfl, s5 _ _ (sq _ _ ht2)⟩ (.cons ⟨rfl, t1, rfl, s5 _ _ (sq _ _ ht1)⟩ .nil))⟩
          obtain ⟨q1, q2, q3⟩ := last (sq.trans s5) pd
          exact ⟨g, _, _, rfl, rfl, q1, szl xl, _, _, _, rfl, q2, upd_same, q3⟩
    · rintro σ' H' ⟨v7, v8, xs, rfl, kp, hg, pg⟩
      refine ⟨_, _, _, xs, rfl, kp, hg, ?_⟩
      have e : mixO os ns sw fs ch (ch.take (i + 1)) = mixO os ns sw fs ch (ch.take i) ++ mixI os ns sw fs ko ch := by
        unfold mixO
        rw [List.take_add_one, hko, List.flatMap_append]
        simp
      rw [e]
      have l : (nvs ch).length = ch.length := List.length_map ..
      rw [l, List.take_length] at pg
      exact pg
  · rintro σ' H' ⟨v6, v7, v8, xs, rfl, kp, hg, pg⟩
    refine ⟨_, rfl, k g H' (fun x o e => kp x o (.inl fun z => by rw [z, n0] at e; cases e) (S2 _ _ e)) n0 ⟨xs, hg, ?_⟩⟩
    have l : (nvs ch).length = ch.length := List.length_map ..
    rw [l, List.take_length] at pg
    unfold mixL
    rw [hch]
    exact pg
end
end Af

set_option Elab.async false
set_option linter.all false
set_option maxRecDepth 100000
set_option maxHeartbeats 8000000
namespace Af
open PySem L2
def mixI0 (os ns : List Int) (k : Nat) (l : List Nat) : List Ptn := (l.filter fun j => decide (k ≠ j)).map fun j => pat2 k (gI os k) j (gI ns j)
def mixO0 (os ns : List Int) (c l : List Nat) : List Ptn := l.flatMap fun k => mixI0 os ns k c
def mixL0 (os ns : List Int) : List Ptn := mixO0 os ns (chgL os ns (List.range os.length)) (chgL os ns (List.range os.length))
theorem mixI_len0 (os ns : List Int) (k : Nat) (l : List Nat) : (mixI0 os ns k l).length ≤ l.length := by
  unfold mixI0
  rw [List.length_map]
  exact List.length_filter_le _ _
theorem mixO_len0 (os ns : List Int) (c : List Nat) : ∀ l : List Nat, (mixO0 os ns c l).length ≤ l.length * c.length
  | [] => Nat.zero_le _
  | k :: l => by
    have ih := mixO_len0 os ns c l
    have h := mixI_len0 os ns k c
    unfold mixO0 at ih ⊢
    rw [List.flatMap_cons, List.length_append, List.length_cons, Nat.succ_mul]
    omega
theorem two_sorted {ys : List Int} {x y : Int} (pm : ys.Perm [x, y]) (pw : ys.Pairwise (· ≤ ·)) (h : x < y) : ys = [x, y] := by
  have l := pm.length_eq
  match ys, l with
  | [u, v], _ =>
    have m1 : x ∈ [u, v] := pm.mem_iff.mpr (by simp)
    have m2 : y ∈ [u, v] := pm.mem_iff.mpr (by simp)
    have le : u ≤ v := by
      have := (List.pairwise_cons.mp pw).1 v (by simp)
      exact this
    simp only [List.mem_cons, List.not_mem_nil, or_false] at m1 m2
    have a : u = x ∧ v = y := by
      rcases m1 with e | e <;> rcases m2 with f | f <;> omega
    rw [a.1, a.2]
/-- a comprehension that takes two entries of a dict anew -/
theorem dc_two {K : PySem.W.Frag} {c h : Nat} {q p : Addr} {z1 z2 : Int} {t1 t2 : Addr} {vs : List Nat} {σ : L2.St} {H : Hp} {rows : List (L2.Key × V)} {R : Addr → Hp → Prop} (hq : H q = some (.lst [.int z1, .int z2])) (hp : H p = some (.dK rows)) (ne : z1 ≠ z2)
    (v1 : valV rows (.inl z1 : L2.Key) = some (.ref t1)) (v2 : valV rows (.inl z2 : L2.Key) = some (.ref t2)) (hw : ∀ x, wipe ((wipe σ vs).set c (some x)) vs = wipe σ vs) (hh : ∀ x, ((wipe σ vs).set c (some x))[h]? = some (some (.ref p))) (hc : ∀ x, ((wipe σ vs).set c (some x))[c]? = some (some x))
    (k : ∀ D H', Same H H' → H D = none → H' D = some (.dK [(.inl z1, .ref t1), (.inl z2, .ref t2)]) → R D H') :
    ∀ D, H D = none → ∃ W : Nat → Nat → Hp → Prop, (∃ m, W 0 m (upd H D (.dK []))) ∧ ∀ i m H, W i m H →
      ((Itl K q).stop i H ∧ R D H) ∨ ((Itl K q).go i H ∧ ∃ Nx : Hp → Prop, (∀ H', Nx H' → ∃ m', m' < m ∧ W (i + 1) m' H') ∧ ∀ x H', (Itl K q).yld i H x H' → (gName c) x (wipe σ vs) H' fun σ2 H2 => wipe σ2 vs = wipe σ vs ∧ tYes σ2 H2 fun b H3 =>
        if b = true then (tVar c) σ2 H3 fun y H4 => (tDGet (tVar h) (tVar c)) σ2 H4 fun z H5 => ∃ kvs k, y = kV k ∧ H5 D = some (.dK kvs) ∧ kvs.length < sizeLine ∧ Nx (upd H5 D (.dK (putK kvs k z))) else Nx H3) := fun D n => by
  refine dc_lst (K := K) (a := q) (xs := [V.int z1, .int z2]) (fun i H' => Same H H' ∧ H' D = some (.dK (([(.inl z1, .ref t1), (.inl z2, .ref t2)] : List (L2.Key × V)).take i))) ⟨same_new n, upd_same⟩ (fun i H' ⟨s, _⟩ => SqL.of (s _ _ hq)) (fun i x H' hx ⟨s, hD⟩ => ?_) (fun H' ⟨s, hD⟩ => k D H' s n hD)
  refine ⟨hw x, x, hc x, .ref p, hh x, x, hc x, ?_⟩
  have il : i < 2 := (List.getElem?_eq_some_iff.mp hx).1
  have hp' := s _ _ hp
  rcases (show i = 0 ∨ i = 1 by omega) with rfl | rfl
  · have e : V.int z1 = x := Option.some.inj hx
    subst e
    refine ⟨p, .ref t1, rfl, .inl ⟨rows, .inl z1, .inl hp', rfl, v1.symm⟩, [], .inl z1, rfl, hD, szl (show 0 < 100000 by decide), same_mut s n, ?_⟩
    rw [upd_same]
    rfl
  · have e : V.int z2 = x := Option.some.inj hx
    subst e
    refine ⟨p, .ref t2, rfl, .inl ⟨rows, .inl z2, .inl hp', rfl, v2.symm⟩, [(.inl z1, .ref t1)], .inl z2, rfl, hD, szl (show 1 < 100000 by decide), same_mut s n, ?_⟩
    rw [upd_same, putK_snoc (fun m => ne (by simpa using (List.mem_singleton.mp m).symm))]
    rfl
def sp_mixed0 : Sp := fun vs H Q _ => ∃ (a b d : Addr) (os ns : List Int), vs = [.ref a, .ref b, .int 0, .ref d] ∧ H a = some (.tup (ivs os)) ∧ H b = some (.tup (ivs ns)) ∧ H d = some (.dK []) ∧ os.length = ns.length ∧ os.length ≤ 7 ∧ ∀ g H', Same H H' → H g = none → GuV H' g (mixL0 os ns) → Q (.ref g) H'
section
variable {P : Program} {w : World} {K : PySem.W.Frag} {mg : Str → Option Value} {base : Heap}
theorem ok_mixed0 {f : Addr} {fd : FuncData} (F : Fun K "_mixed" "_mixed" s_mixed f fd) (T : Txt mg) (t_sorted : mg "sorted" = none) : FnOk P w K mg base CX0 1 f fd ["olds", "news", "first", "while_so"] sp_mixed0 := by
  refine F.ok sc_mixed (fun vs H Q E h => ?_) (fun cdv A outer s H vs Q E hr h => ?_)
  · obtain ⟨_, _, _, _, _, rfl, _⟩ := h
    rfl
  obtain ⟨a, b, d, os, ns, rfl, ha, hb, hd, hl, l7, k⟩ := h
  refine ⟨_, (pss_cons (ps_setLc (i := 4) (own := [("at", 9)]) (g := (gName 9)) rfl sc_mixed.nd rfl rfl (sw_true rfl rfl rfl (by decide +kernel)) (pi_range1 rfl T.range (pa_cons (pe_callB call_len' (by rfl) T.len (by decide +kernel) (pa_cons (pv 0) pa_nil)) pa_nil)) (blkOk_by (own := [("at", 9)]) (N := N_mixed) (sc := defScope s_mixed) (by decide +kernel)) (fun _ _ _ _ _ => pg_name (i := 9) sc_mixed.nd rfl (Or.inl rfl)) (fun _ _ _ _ _ => (pts_one (pt_cmpR op_ne (pe_ix ix_seq' (pv 0) (pv 9) (fun _ _ => rfl)) (pe_ix ix_seq' (pv 1) (pv 9) (fun _ _ => rfl)) (nomark _)))) (fun _ _ _ _ _ => (pv 9)))
    (pss_cons (ps_set (i := 5) sc_mixed.nd rfl (Or.inl rfl) (pe_lst' pa_nil))
    (pss_cons (ps_for PassesOwn.never rfl (pi_list (pv 4)) (pg_name (i := 6) sc_mixed.nd rfl (Or.inl rfl))
      (pss_one (ps_for PassesOwn.never rfl (pi_list (pv 4)) (pg_name (i := 7) sc_mixed.nd rfl (Or.inl rfl))
      (pss_one (ps_if (pt_cmpR op_ne (pv 6) (pv 7) (nomark _))
      (pss_cons (ps_set (i := 8) sc_mixed.nd rfl (Or.inr rfl) (pe_spread (pv 3) (pps_cons (pe_op op_add (pv 2) (pv 6)) (pe_tup' (pa_cons (pe_ix ix_seq' (pv 0) (pv 6) (fun _ _ => rfl)) pa_nil)) (pps_cons (pe_op op_add (pv 2) (pv 7)) (pe_tup' (pa_cons (pe_ix ix_seq' (pv 1) (pv 7) (fun _ _ => rfl)) pa_nil)) pps_nil)) rfl rfl (by simp) (by decide)))
    (pss_one (ps_expr (pe_bm PySem.F.plainAttrs_list PySem.F.slot_list_append PySem.F.type_list_append mt_append (pv 5) (pa_cons (pe_dc (own := [("cell", 10)]) (g := (gName 10)) (tt := tYes) rfl sc_mixed.nd (pi_list (pe_callB (call_sortedDI rfl) (by rfl) t_sorted (by decide +kernel) (pa_cons (pv 8) pa_nil))) (blkOk_by (own := [("cell", 10)]) (N := N_mixed) (sc := defScope s_mixed) (by decide +kernel)) (fun _ _ _ _ _ => pg_name (i := 10) sc_mixed.nd rfl (Or.inl rfl)) (fun _ _ _ _ _ => pts_nil) (fun _ _ _ _ _ => (pv 10)) (fun _ _ _ _ _ => (pe_dget hr.u1 (pv 8) (pv 10) (fun _ _ => rfl)))) pa_nil)))))
      pss_nil)))))
    (pss_one (ps_ret (pv 5)))))), ?_⟩
  refine ⟨_, rfl, a, _, rfl, .inr ha, _, rfl, ?_, ?_, fun C hC => lc_range (fun i H' => Same H H' ∧ H' C = some (.lst (nvs (chgL os ns (List.range i))))) ?_ ?_ ?_⟩
  · rw [ivs_len]; omega
  · rw [ivs_len]; omega
  · exact ⟨same_new hC, upd_same⟩
  · rintro i H' hi ⟨s1, h1⟩
    rw [ivs_len] at hi
    have hi : i < os.length := by omega
    refine ⟨rfl, _, rfl, _, rfl, a, _, _, _, rfl, rfl, .inr (s1 _ _ ha), at0 hi, _, rfl, _, rfl, b, _, _, _, rfl, rfl, .inr (s1 _ _ hb), at0 (hl ▸ hi), rfl, _, rfl, ?_⟩
    have e : chgL os ns (List.range (i + 1)) = chgL os ns (List.range i) ++ (if decide (gI os i ≠ gI ns i) = true then [i] else []) := by
      unfold chgL
      rw [List.range_succ, List.filter_append, List.filter_cons, List.filter_nil]
    rw [e]
    by_cases c : gI os i = gI ns i
    · rw [c]
      refine iteF' (by simp) ⟨s1, ?_⟩
      rw [if_neg (by simp), List.append_nil]
      exact h1
    · refine iteT' (by simp [c]) ⟨_, rfl, _, h1, szl ?_, same_mut s1 hC, ?_⟩
      · have := List.length_filter_le (fun i => decide (gI os i ≠ gI ns i)) (List.range i)
        unfold nvs chgL
        rw [List.length_map]
        rw [List.length_range] at this
        omega
      · rw [upd_same, if_pos (by simp [c]), nvs_app]
        show some (HO.lst (_ ++ [V.int (0 + (i : Int))])) = _
        rw [Int.zero_add]
        rfl
  rintro H1 ⟨s1, h1⟩
  have h1 : H1 C = some (.lst (nvs (chgL os ns (List.range os.length)))) := by
    rw [h1, ivs_len]
    rfl
  have cb : ∀ k ∈ chgL os ns (List.range os.length), k < os.length := fun k hk => List.mem_range.mp (List.mem_filter.mp hk).1
  generalize hch : chgL os ns (List.range os.length) = ch at h1 cb
  refine ⟨szr, fun g H2 n2 s2 h2 => ?_⟩
  have S2 := s1.trans s2
  have ha2 := S2 _ _ ha
  have hb2 := S2 _ _ hb
  have hd2 := S2 _ _ hd
  have hC2 := s2 _ _ h1
  have n0 : H g = none := s1.free n2
  have gC : C ≠ g := fun e => by rw [e, n2] at h1; cases h1
  refine ⟨_, rfl, C, rfl, ⟨_, SqL.of hC2⟩, for_list (K := K) (a := C) (xs := nvs ch) (fun i σ' H' => ∃ v6 v7 v8 xs, σ' = [some (.ref a), some (.ref b), some (.int 0), some (.ref d), some (.ref C), some (.ref g), v6, v7, v8, none, none] ∧ Kp g H2 H' ∧ H' g = some (.lst xs) ∧ Paired (PatE H') xs (mixO0 os ns ch (ch.take i))) ?_ ?_ ?_ ?_⟩
  · exact ⟨_, _, _, [], rfl, Kp.refl, h2, .nil⟩
  · rintro i σ' H' _ ⟨_, _, _, _, _, kp, _⟩
    exact SqL.of (kp.lst gC hC2)
  · rintro i x σ' H' hx ⟨v6, v7, v8, xs, rfl, kp, hg, pg⟩
    obtain ⟨ko, hko, rfl⟩ := nvs_get hx
    have kb := cb ko (List.mem_of_getElem? hko)
    refine ⟨_, rfl, C, rfl, ⟨_, SqL.of (kp.lst gC hC2)⟩, for_list (K := K) (a := C) (xs := nvs ch) (fun j σ' H' => ∃ v7 v8 xs, σ' = [some (.ref a), some (.ref b), some (.int 0), some (.ref d), some (.ref C), some (.ref g), some (.int ((ko : Nat) : Int)), v7, v8, none, none] ∧ Kp g H2 H' ∧ H' g = some (.lst xs) ∧ Paired (PatE H') xs (mixO0 os ns ch (ch.take i) ++ mixI0 os ns ko (ch.take j))) ?_ ?_ ?_ ?_⟩
    · exact ⟨_, _, xs, rfl, kp, hg, by rw [List.take_zero]; show Paired _ _ (_ ++ []); rw [List.append_nil]; exact pg⟩
    · rintro j σ' H' _ ⟨_, _, _, _, kp, _⟩
      exact SqL.of (kp.lst gC hC2)
    · rintro j x σ' H' hx ⟨v7, v8, xs, rfl, kp, hg, pg⟩
      obtain ⟨jo, hjo, rfl⟩ := nvs_get hx
      have jb := cb jo (List.mem_of_getElem? hjo)
      have e : mixI0 os ns ko (ch.take (j + 1)) = mixI0 os ns ko (ch.take j) ++ (if decide (ko ≠ jo) = true then [pat2 ko (gI os ko) jo (gI ns jo)] else []) := by
        unfold mixI0
        rw [List.take_add_one, hjo, List.filter_append, List.map_append]
        congr 1
        simp only [Option.toList_some, List.filter_cons, List.filter_nil]
        split <;> rfl
      rw [e]
      refine ⟨_, rfl, _, rfl, rfl, _, rfl, ?_⟩
      by_cases c : ko = jo
      · subst c
        refine iteF' (by simp) ⟨_, _, xs, rfl, kp, hg, ?_⟩
        rw [if_neg (by simp), List.append_nil]
        exact pg
      · refine iteT' (by simp; omega) ?_
        rw [if_pos (by simp [c]), ← List.append_assoc]
        have ha' := kp.tup ha2
        have hb' := kp.tup hb2
        have hd' : H' d = some (.dK []) := kp d _ (.inr fun l e => by cases e) hd2
        dsimp only [tSeq, tAsg]
        refine spread_pat (ps := [(ko, [gI os ko]), (jo, [gI ns jo])]) rfl hd' ?_ (by show 2 ≤ 15; decide) (fun I R sI kk => ?_) (fun p H3 s3 n3 pv => ?_)
        · simp
          omega
        · refine ⟨_, rfl, _, rfl, _, _, rfl, rfl, _, rfl, _, rfl, a, _, _, _, rfl, rfl, .inr (sI _ _ ha'), atG kb, szr, fun t1 I1 n1 r1 q1 => ⟨_, rfl, _, rfl, _, _, rfl, rfl, _, rfl, _, rfl, b, _, _, _, rfl, rfl, .inr (r1 _ _ (sI _ _ hb')), atG (hl ▸ jb), szr, fun t2 I2 n2 r2 q2 => ?_⟩⟩
          have z : ∀ n : Nat, V.int (0 + (n : Int)) = V.int (n : Int) := fun n => by rw [Int.zero_add]
          show R [(V.int (0 + (ko : Int)), V.ref t1), (V.int (0 + (jo : Int)), V.ref t2)] I2
          rw [z, z]
          exact kk [(.inl ((ko : Nat) : Int), .ref t1), (.inl ((jo : Nat) : Int), .ref t2)] I2 (r1.trans r2) (.cons ⟨rfl, t1, rfl, r2 _ _ q1⟩ (.cons ⟨rfl, t2, rfl, q2⟩ .nil))
        obtain ⟨rows, hr3, pr⟩ := pv.ex
        have hg3 := s3 _ _ hg
        match rows, pr, hr3 with
        | [(k1, x1), (k2, x2)], .cons ⟨e1, t1, e2, ht1⟩ (.cons ⟨f1, t2, f2, ht2⟩ .nil), hr3 =>
        simp only at e1 e2 f1 f2
        subst e1 e2 f1 f2
        refine ⟨_, rfl, .inl ⟨rfl, _, SqL.of hg3⟩, _, rfl, p, _, [((ko : Nat) : Int), ((jo : Nat) : Int)], rfl, .inl hr3, rfl, (show 2 < 64 by decide), fun ys q pm pw nq => ⟨q, rfl, ⟨_, SqL.of upd_same⟩, ?_⟩⟩
        have pq : p ≠ q := fun e => by rw [e, nq] at hr3; cases hr3
        have sq : Same H3 (upd H3 q (.lst (ys.map V.int))) := same_new nq
        have xl : xs.length < 100000 := by
          rw [paired_len pg, List.length_append]
          have l1 : ch.length ≤ 7 := by
            rw [← hch]
            unfold chgL
            have := List.length_filter_le (fun i => decide (gI os i ≠ gI ns i)) (List.range os.length)
            rw [List.length_range] at this
            omega
          have l2 := mixO_len0 os ns ch (ch.take i)
          have l3 := mixI_len0 os ns ko (ch.take j)
          have l4 : (ch.take i).length ≤ 7 := by rw [List.length_take]; omega
          have l5 : (ch.take j).length ≤ 7 := by rw [List.length_take]; omega
          have l6 := Nat.mul_le_mul l4 l1
          omega
        have last : ∀ {D : Addr} {H5 : Hp}, Same H3 H5 → PatV H5 D (pat2 ko (gI os ko) jo (gI ns jo)) → H5 g = some (.lst xs) ∧ Kp g H2 (upd H5 g (.lst (xs ++ [V.ref D]))) ∧ Paired (PatE (upd H5 g (.lst (xs ++ [V.ref D])))) (xs ++ [V.ref D]) (mixO0 os ns ch (ch.take i) ++ mixI0 os ns ko (ch.take j) ++ [pat2 ko (gI os ko) jo (gI ns jo)]) := fun {D H5} s5 pd => by
          have hg5 := s5 _ _ hg3
          exact ⟨hg5, (kp.trans (Kp.same (s3.trans s5))).trans (kp_upd hg5), L2.Paired.mapP (paired_app (L2.Paired.mapP pg fun _ _ z => z.same (s3.trans s5)) (.cons ⟨D, rfl, pd⟩ .nil)) fun _ _ z => z.kp (kp_upd hg5)⟩
        rcases Nat.lt_or_ge ko jo with lt | ge
        · have ey := two_sorted pm pw (by omega)
          subst ey
          refine dc_two (K := K) (c := 10) (h := 8) (vs := [10]) (p := p) (t1 := t1) (t2 := t2) upd_same ((upd_ne pq).trans hr3) (by omega) (valV_pos rfl) ((valV_neg (by simp; omega)).trans (valV_pos rfl)) ?_ ?_ ?_ (fun D H5 s5 n5 h5 => ?_)
          · exact fun x => rfl
          · exact fun x => rfl
          · exact fun x => rfl
          have pd : PatV H5 D (pat2 ko (gI os ko) jo (gI ns jo)) := by
            unfold pat2
            rw [if_pos lt]
            exact .mk ⟨_, h5, .cons ⟨rfl, t1, rfl, s5 _ _ (sq _ _ ht1)⟩ (.cons ⟨rfl, t2, rfl, s5 _ _ (sq _ _ ht2)⟩ .nil)⟩
          obtain ⟨q1, q2, q3⟩ := last (sq.trans s5) pd
          exact ⟨g, _, _, rfl, rfl, q1, szl xl, _, _, _, rfl, q2, upd_same, q3⟩
        · have ey := two_sorted (pm.trans (List.Perm.swap _ _ [])) pw (by omega)
          subst ey
          refine dc_two (K := K) (c := 10) (h := 8) (vs := [10]) (p := p) (t1 := t2) (t2 := t1) upd_same ((upd_ne pq).trans hr3) (by omega) ((valV_neg (by simp; omega)).trans (valV_pos rfl)) (valV_pos rfl) ?_ ?_ ?_ (fun D H5 s5 n5 h5 => ?_)
          · exact fun x => rfl
          · exact fun x => rfl
          · exact fun x => rfl
          have pd : PatV H5 D (pat2 ko (gI os ko) jo (gI ns jo)) := by
            unfold pat2
            rw [if_neg (by omega)]
            exact .mk ⟨_, h5, .cons ⟨rfl, t2, rfl, s5 _ _ (sq _ _ ht2)⟩ (.cons ⟨rfl, t1, rfl, s5 _ _ (sq _ _ ht1)⟩ .nil)⟩
          obtain ⟨q1, q2, q3⟩ := last (sq.trans s5) pd
          exact ⟨g, _, _, rfl, rfl, q1, szl xl, _, _, _, rfl, q2, upd_same, q3⟩
    · rintro σ' H' ⟨v7, v8, xs, rfl, kp, hg, pg⟩
      refine ⟨_, _, _, xs, rfl, kp, hg, ?_⟩
      have e : mixO0 os ns ch (ch.take (i + 1)) = mixO0 os ns ch (ch.take i) ++ mixI0 os ns ko ch := by
        unfold mixO0
        rw [List.take_add_one, hko, List.flatMap_append]
        simp
      rw [e]
      have l : (nvs ch).length = ch.length := List.length_map ..
      rw [l, List.take_length] at pg
      exact pg
  · rintro σ' H' ⟨v6, v7, v8, xs, rfl, kp, hg, pg⟩
    refine ⟨_, rfl, k g H' (fun x o e => kp x o (.inl fun z => by rw [z, n0] at e; cases e) (S2 _ _ e)) n0 ⟨xs, hg, ?_⟩⟩
    have l : (nvs ch).length = ch.length := List.length_map ..
    rw [l, List.take_length] at pg
    unfold mixL0
    rw [hch]
    exact pg
end
end Af

set_option Elab.async false
set_option linter.all false
set_option maxRecDepth 100000
set_option maxHeartbeats 8000000
namespace Af
open PySem L2
abbrev s_unlike : Stmt := top 36
abbrev N_unlike : List Str := ["news", "first", "switch", "others", "new", "worth", "at"]
theorem sc_unlike : FnScope N_unlike ["news", "first", "switch"] (defScope s_unlike) := ⟨rfl, rfl, rfl, by decide +kernel, rfl, by decide +kernel, by decide +kernel⟩

def eight : List Int := [0, 1, 2, 3, 4, 5, 6, 7]
def othT (z : Int) (i : Nat) : List Int := (eight.take i).filter fun y => decide (y ≠ z)
def unlP (ns : List Int) (fst sw k : Nat) : Ptn := [(fst + k, othT (gI ns k) 8), (sw, [1])]
def unlL (ns : List Int) (fst sw n : Nat) : List Ptn := (List.range n).map (unlP ns fst sw)
theorem unl_succ (ns : List Int) (fst sw n : Nat) : unlL ns fst sw (n + 1) = unlL ns fst sw n ++ [unlP ns fst sw n] := by
  unfold unlL
  rw [List.range_succ, List.map_append]
  rfl
theorem eight_at {i : Nat} (h : i < 8) : eight[i]? = some (i : Int) := by
  have : ∀ j : Fin 8, eight[j.val]? = some (j.val : Int) := by decide
  exact this ⟨i, h⟩
theorem oth_succ {z : Int} {i : Nat} (h : i < 8) : othT z (i + 1) = othT z i ++ (if decide ((i : Int) ≠ z) = true then [(i : Int)] else []) := by
  unfold othT
  rw [List.take_add_one, eight_at h, List.filter_append]
  congr 1
  simp only [Option.toList_some, List.filter_cons, List.filter_nil]
theorem oth_len (z : Int) (i : Nat) : (othT z i).length ≤ 8 := by
  unfold othT
  have h := List.length_filter_le (fun y => decide (y ≠ z)) (eight.take i)
  rw [List.length_take] at h
  have : eight.length = 8 := rfl
  omega
def scU : Scope := { kind := ScopeKind.function, names := [(".0", NameKind.local), ("new", NameKind.cell), ("tuple", NameKind.globalImplicit), ("ALL_WORTHS", NameKind.globalImplicit)], isGenerator := false, isCoroutine := false }
theorem pi_tupK {X : Cx} {K : PySem.W.Frag} {e tg : Expr} {te : TE} (hK : X.K = K) (he : PE X e te) : PI X tg e (iTup K te) := by
  subst hK
  exact pi_tup he
def sp_unlike : Sp := fun vs H Q _ => ∃ (b : Addr) (ns : List Int) (fs sw : Nat), vs = [.ref b, .int (fs : Nat), .int (sw : Nat)] ∧ fs + ns.length ≤ sw ∧ H b = some (.tup (ivs ns)) ∧ ns.length ≤ 7 ∧ ∀ g H', Same H H' → H g = none → GuV H' g (unlL ns fs sw ns.length) → Q (.ref g) H'
section
variable {P : Program} {w : World} {K : PySem.W.Frag} {mg : Str → Option Value} {base : Heap}
theorem ok_unlike {f : Addr} {fd : FuncData} (F : Fun K "_unlike" "_unlike" s_unlike f fd) (T : Txt mg) (C : Cst K mg) : FnOk P w K mg base CX0 1 f fd ["news", "first", "switch"] sp_unlike := by
  obtain ⟨aw, aw_m, aw_s⟩ := C.worths
  have c_ALL_WORTHS := aw_m
  refine F.ok sc_unlike (fun vs H Q E h => ?_) (fun cdv A outer s H vs Q E hr h => ?_)
  · obtain ⟨_, _, _, _, rfl, _⟩ := h
    rfl
  obtain ⟨b, ns, fs, sw, rfl, fsw, hb, l7, k⟩ := h
  refine ⟨_, (pss_cons (ps_set (i := 3) sc_unlike.nd rfl (Or.inr rfl) (pe_lc (own := [("new", 4)]) (g := (gName 4)) (tt := tYes) rfl sc_unlike.nd (pi_tup (pv 0)) (blkOk_by (own := [("new", 4)]) (N := N_unlike) (sc := defScope s_unlike) (by decide +kernel)) (fun _ _ _ _ _ => pg_name (i := 4) sc_unlike.nd rfl (Or.inr rfl)) (fun _ _ _ _ _ => pts_nil) (fun _ _ _ _ _ => (pe_callTy call_tuple' (by rfl) T.tuple (by decide +kernel) (pa_cons (pe_lc (own := [("worth", 5)]) (g := (gName 5)) rfl sc_unlike.nd (pi_tupK (K := K) rfl (pe_glob (v := .ref aw) rfl c_ALL_WORTHS rfl)) (blkOk_by (own := [("worth", 5)]) (N := N_unlike) (sc := scU) (by decide +kernel)) (fun _ _ _ _ _ => pg_name (i := 5) sc_unlike.nd rfl (Or.inl rfl)) (fun _ _ _ _ _ => (pts_one (pt_cmpR op_ne (pv 5) (pv 4) (nomark _)))) (fun _ _ _ _ _ => (pv 5))) pa_nil)))))
    (pss_one (ps_ret (pe_lc (own := [("at", 6)]) (g := (gName 6)) (tt := tYes) rfl sc_unlike.nd (pi_range1 rfl T.range (pa_cons (pe_callB call_len' (by rfl) T.len (by decide +kernel) (pa_cons (pv 0) pa_nil)) pa_nil)) (blkOk_by (own := [("at", 6)]) (N := N_unlike) (sc := defScope s_unlike) (by decide +kernel)) (fun _ _ _ _ _ => pg_name (i := 6) sc_unlike.nd rfl (Or.inl rfl)) (fun _ _ _ _ _ => pts_nil) (fun _ _ _ _ _ => (pe_disp (pps_cons (pe_op op_add (pv 1) (pv 6)) (pe_ix ix_seq' (pv 3) (pv 6) (fun _ _ => rfl)) (pps_cons (pv 2) (pe_tup' (pa_cons pe_int pa_nil)) pps_nil)) rfl rfl (by simp) (by decide))))))), ?_⟩
  have ew : (ivs [0, 1, 2, 3, 4, 5, 6, 7] : List V) = ivs eight := rfl
  rw [ew] at aw_s
  refine ⟨_, rfl, b, rfl, ⟨_, SqT.of hb⟩, fun O nO => lc_tup (K := K) (a := b) (xs := ivs ns) (fun i I => Same H I ∧ ∃ ts, I O = some (.lst ts) ∧ ts.length = i ∧ ∀ j, j < i → ∃ t, ts[j]? = some (.ref t) ∧ I t = some (.tup (ivs (othT (gI ns j) 8)))) ?_ ?_ ?_ ?_⟩
  · exact ⟨same_new nO, [], upd_same, rfl, fun j hj => absurd hj (Nat.not_lt_zero _)⟩
  · rintro i I _ ⟨s1, _⟩
    exact SqT.of (s1 _ _ hb)
  · rintro i y I hy ⟨s1, ts, h1, tl, ht⟩
    have il : i < ns.length := by have := (List.getElem?_eq_some_iff.mp hy).1; rw [ivs_len] at this; exact this
    have ey : y = .int (gI ns i) := by
      have := hy.symm.trans (ivs_at il)
      exact Option.some.inj this
    subst ey
    refine ⟨rfl, aw, rfl, ⟨_, aw_s _⟩, fun C nC => lc_tup (K := K) (a := aw) (xs := ivs eight) (fun c J => Same I J ∧ J C = some (.lst (ivs (othT (gI ns i) c)))) ?_ ?_ ?_ ?_⟩
    · exact ⟨same_new nC, upd_same⟩
    · exact fun _ _ _ _ => aw_s _
    · rintro c x J hx ⟨s2, h2⟩
      have hc : c < 8 := (List.getElem?_eq_some_iff.mp hx).1
      have ex : x = .int (c : Int) := by
        have e : (ivs eight)[c]? = some (.int (c : Int)) := by
          unfold ivs
          rw [List.getElem?_map, eight_at hc]
          rfl
        exact Option.some.inj (hx.symm.trans e)
      subst ex
      refine ⟨rfl, _, rfl, _, rfl, rfl, _, rfl, ?_⟩
      rw [oth_succ hc]
      by_cases z : (c : Int) = gI ns i
      · refine iteF' (by simp [z]) ⟨s2, ?_⟩
        rw [if_neg (by simp [z]), List.append_nil]
        exact h2
      · refine iteT' (by simp [z]) ⟨_, rfl, _, h2, szl (by rw [ivs_len]; have := oth_len (gI ns i) c; omega), same_mut s2 nC, ?_⟩
        rw [upd_same, if_pos (by simp [z])]
        unfold ivs
        rw [List.map_append]
        rfl
    · rintro J ⟨s2, h2⟩
      refine ⟨C, _, rfl, .inl h2, fun t J2 s3 h3 => ⟨ts, s3 _ _ (s2 _ _ h1), szl (by omega), same_mut (s1.trans (s2.trans s3)) nO, ts ++ [.ref t], upd_same, by rw [List.length_append, tl]; rfl, fun j hj => ?_⟩⟩
      have S := s2.trans s3
      have hO2 := S _ _ h1
      have ne : ∀ {u : Addr} {l : List V}, J2 u = some (.tup l) → (upd J2 O (.lst (ts ++ [.ref t]))) u = some (.tup l) := fun {u l} e => by
        rw [upd_ne (ne_tl e hO2)]
        exact e
      rcases Nat.lt_or_ge j i with lt | ge
      · obtain ⟨u, e1, e2⟩ := ht j lt
        exact ⟨u, by rw [List.getElem?_append_left (by omega)]; exact e1, ne (S _ _ e2)⟩
      · have e : j = i := by omega
        subst e
        refine ⟨t, ?_, ne h3⟩
        rw [List.getElem?_append_right (by omega), tl, Nat.sub_self]
        rfl
  rintro H1 ⟨s1, ts, h1, tl, ht⟩
  rw [ivs_len] at tl ht
  have hb1 := s1 _ _ hb
  have en : (((ivs ns).length : Nat) : Int).toNat = ns.length := by rw [Int.toNat_natCast, ivs_len]
  refine ⟨_, rfl, b, _, rfl, .inr hb1, _, rfl, ?_, ?_, ?_⟩
  · rw [ivs_len]; omega
  · rw [ivs_len]; omega
  rw [en]
  refine fun G nG => lc_range (lo := 0) (n := ns.length) (fun i I => Same H1 I ∧ ∃ xs, I G = some (.lst xs) ∧ Paired (PatE I) xs (unlL ns fs sw i)) ?_ ?_ ?_
  · exact ⟨same_new nG, [], upd_same, .nil⟩
  · rintro i I hi ⟨s2, xs, hg, pg⟩
    obtain ⟨t, e1, e2⟩ := ht i hi
    have eO : atI ts (0 + (i : Int)) = some (.ref t) := by
      rw [Int.zero_add]
      exact atI_nat (j := i) e1
    refine ⟨rfl, fun p np => ⟨_, rfl, _, rfl, _, _, rfl, rfl, _, rfl, _, rfl, O, _, _, _, rfl, rfl, .inl (same_new np _ _ (s2 _ _ h1)), eO, _, rfl, szr, fun t2 I2 m2 r2 h2 => ?_⟩⟩
    have z1 : V.int ((fs : Int) + (0 + (i : Int))) = V.int (((fs + i : Nat)) : Int) := congrArg V.int (by omega)
    have z2 : V.int (sw : Int) = V.int ((sw : Nat) : Int) := rfl
    refine ⟨r2 _ _ upd_same, [(.inl (((fs + i : Nat)) : Int), .ref t), (.inl (((sw : Nat)) : Int), .ref t2)], ?_, (show 2 ≤ 15 by decide), ?_⟩
    · show [(V.int ((fs : Int) + (0 + (i : Int))), V.ref t), (V.int (sw : Int), V.ref t2)] = _
      rw [z1]
      rfl
    have sp : Same I (upd I2 p (.dK (mergeK [] [(.inl (((fs + i : Nat)) : Int), .ref t), (.inl (((sw : Nat)) : Int), .ref t2)]))) := same_mut ((same_new np).trans r2) np
    have hp2 : I2 p = some (.dK []) := r2 _ _ upd_same
    have ht2 : (upd I2 p (.dK (mergeK [] [(.inl (((fs + i : Nat)) : Int), .ref t), (.inl (((sw : Nat)) : Int), .ref t2)]))) t2 = some (.tup (ivs [1])) := by
      rw [upd_ne (fun z => by rw [z, hp2] at h2; cases h2)]
      exact h2
    have pd : PatV (upd I2 p (.dK (mergeK [] [(.inl (((fs + i : Nat)) : Int), .ref t), (.inl (((sw : Nat)) : Int), .ref t2)]))) p (unlP ns fs sw i) := by
      refine .mk ⟨[(.inl (((fs + i : Nat)) : Int), .ref t), (.inl (((sw : Nat)) : Int), .ref t2)], ?_, .cons ⟨rfl, t, rfl, sp _ _ (s2 _ _ e2)⟩ (.cons ⟨rfl, t2, rfl, ht2⟩ .nil)⟩
      rw [upd_same, merge_rows _ [] (by simp; omega)]
      rfl
    have hg2 := sp _ _ hg
    refine ⟨xs, hg2, szl (by rw [paired_len pg]; unfold unlL; rw [List.length_map, List.length_range]; omega), same_mut (s2.trans sp) nG, xs ++ [.ref p], upd_same, ?_⟩
    rw [unl_succ]
    exact L2.Paired.mapP (paired_app (L2.Paired.mapP pg fun _ _ z => z.same sp) (.cons ⟨p, rfl, pd⟩ .nil)) fun _ _ z => z.kp (kp_upd hg2)
  · rintro I ⟨s2, xs, hg, pg⟩
    exact k G I (s1.trans s2) (s1.free nG) ⟨xs, hg, pg⟩
end
end Af

set_option Elab.async false
set_option linter.all false
set_option maxRecDepth 100000
set_option maxHeartbeats 8000000
namespace Af
open PySem L2
abbrev s_straight : Stmt := top 30
abbrev N_straight : List Str := ["olds", "news"]
theorem sc_straight : FnScope N_straight ["olds", "news"] (defScope s_straight) := ⟨rfl, rfl, rfl, by decide +kernel, rfl, by decide +kernel, by decide +kernel⟩

abbrev s_switched : Stmt := top 31
abbrev N_switched : List Str := ["olds", "news", "barriers", "many", "switch", "steps"]
theorem sc_switched : FnScope N_switched ["olds", "news", "barriers"] (defScope s_switched) := ⟨rfl, rfl, rfl, by decide +kernel, rfl, by decide +kernel, by decide +kernel⟩

abbrev s_logged : Stmt := top 32
abbrev N_logged : List Str := ["olds", "news", "barriers", "switch", "writes", "guards"]
theorem sc_logged : FnScope N_logged ["olds", "news", "barriers"] (defScope s_logged) := ⟨rfl, rfl, rfl, by decide +kernel, rfl, by decide +kernel, by decide +kernel⟩

abbrev s_log_rules : Stmt := top 33
abbrev N_log_rules : List Str := ["olds", "news", "barrier", "switch", "steps"]
theorem sc_log_rules : FnScope N_log_rules ["olds", "news", "barrier"] (defScope s_log_rules) := ⟨rfl, rfl, rfl, by decide +kernel, rfl, by decide +kernel, by decide +kernel⟩

theorem spl_len1 {w f : Int} {ws : List Int} (h : ws ≠ []) : (spl w f [] f ws).length ≤ ws.length := by
  cases ws with
  | nil => exact absurd rfl h
  | cons x r =>
    rw [spl_go (by simp), List.length_cons]
    exact spl_len r _ _ _
theorem allP_tot {w : Int} {n : Nat} : ∀ {l : List Stp} {i : Nat}, (∀ x ∈ l, OkS n x) → (allP w i l).length ≤ tot l
  | [], _, _ => Nat.le_refl _
  | a :: l, i, h => by
    have ih := allP_tot (w := w) (l := l) (i := i + 1) fun x hx => h x (List.mem_cons_of_mem _ hx)
    have e : allP w i (a :: l) = oneP w i a ++ allP w (i + 1) l := rfl
    rw [e, List.length_append, tot_cons]
    have o := h a List.mem_cons_self
    cases a with
    | none =>
      show 0 + _ ≤ 0 + _
      omega
    | some fw =>
      obtain ⟨f, ws⟩ := fw
      obtain ⟨_, o2, _⟩ := o
      have z : (oneP w i (some (f, ws))).length ≤ ws.length := by
        show ((spl w f [] f ws).map _).length ≤ _
        rw [List.length_map]
        exact spl_len1 o2
      have e2 : stl (some (f, ws)) = ws.length := rfl
      omega
def plS (os ns : List Int) : Pl := ⟨os, 1, [some (0, ns)]⟩
def plB (os ns : List Int) (c : Bool) : Pl := ⟨os ++ List.replicate (os.length + 1) 0, 1, if c then [some ((os.length : Nat), ns), none, some (((2 * os.length : Nat)), [1])] else [some ((os.length : Nat), ns), some (((2 * os.length : Nat)), [1])]⟩
/-- writes with barriers amid them, as steps -/
def wS (x : Stp) (ps : List (Stp × Bool)) : List Stp := x :: ps.flatMap fun p => if p.2 = true then [none, p.1] else [p.1]
theorem wv_wS {H : Hp} {x : V} {y : Stp} (hx : StepV H x y) : ∀ {ps : List (V × Bool)} {qs : List (Stp × Bool)}, Paired (fun p q => StepV H p.1 q.1 ∧ p.2 = q.2) ps qs → Paired (StepV H) (wv x ps) (wS y qs) := by
  intro ps qs h
  refine .cons hx ?_
  induction h with
  | nil => exact .nil
  | @cons p q ps qs h1 h2 ih =>
    obtain ⟨h1, e⟩ := h1
    rw [List.flatMap_cons, List.flatMap_cons, ← e]
    by_cases c : p.2 = true
    · rw [if_pos c, if_pos c]
      exact .cons rfl (.cons h1 ih)
    · rw [if_neg c, if_neg c]
      exact .cons h1 ih
theorem sv {H : Hp} {t u : Addr} {f : Int} {ws : List Int} (h : H t = some (.tup [.int f, .ref u])) (h2 : H u = some (.tup (ivs ws))) : StepV H (.ref t) (some (f, ws)) := ⟨t, u, rfl, h, h2⟩
theorem wS_mem {x y : Stp} : ∀ {qs : List (Stp × Bool)}, y ∈ wS x qs → y = none ∨ y = x ∨ ∃ q ∈ qs, y = q.1 := by
  intro qs h
  rcases List.mem_cons.mp h with h | h
  · exact .inr (.inl h)
  obtain ⟨q, hq, h⟩ := List.mem_flatMap.mp h
  split at h
  · simp only [List.mem_cons, List.not_mem_nil, or_false] at h
    rcases h with h | h
    · exact .inl h
    · exact .inr (.inr ⟨q, hq, h⟩)
  · exact .inr (.inr ⟨q, hq, List.mem_singleton.mp h⟩)
def lgS (ns : List Int) (n : Nat) (a b c : Bool) : List Stp := wS (some (0, ns)) [(some ((n : Nat), [1]), a), (some (((n + 1 : Nat)), ns), b), (some ((n : Nat), [0]), c)]
def plL (os ns : List Int) (a b c : Bool) : Pl := ⟨List.replicate (os.length + 1) 0 ++ os, 1, lgS ns os.length a b c⟩
def gsL (os ns : List Int) : List Ptn := unlL ns 0 ns.length ns.length ++ mixL os ns ns.length (ns.length + 1)
def ruS (ns : List Int) (n : Nat) (a : Bool) : List Stp := wS (some (((n + 1 : Nat)), ns)) [(some ((n : Nat), [0]), a)]
/-- what the pairs of worths are -/
structure Pr (os ns : List Int) : Prop where
  l : os.length = ns.length
  l1 : 1 ≤ os.length
  l7 : os.length ≤ 7
  ob : ∀ z ∈ os, 0 ≤ z ∧ z < 8
  nb : ∀ z ∈ ns, 0 ≤ z ∧ z < 8
theorem ne_len {l : List Int} (h : 1 ≤ l.length) : l ≠ [] := fun e => by rw [e] at h; exact absurd h (by decide)
theorem okS {os ns : List Int} (p : Pr os ns) : OkP (plS os ns) := by
  have st : ∀ x ∈ [some ((0 : Int), ns)], OkS os.length x := fun x hx => by
    rw [List.mem_singleton.mp hx]
    exact ⟨Int.le_refl 0, ne_len (p.l ▸ p.l1), by have := p.l; omega, p.nb⟩
  refine ⟨p.l1, Nat.le_trans p.l7 (by decide), p.ob, (by decide : (1 : Int) ≤ 1), (by decide : (1 : Int) ≤ 24), st, (by decide : 1 ≤ 40), Nat.le_trans (allP_tot st) ?_⟩
  show ns.length + 0 ≤ 40
  have := p.l
  have := p.l7
  omega
theorem okB {os ns : List Int} (p : Pr os ns) (c : Bool) : OkP (plB os ns c) := by
  have pl := p.l
  have p7 := p.l7
  have p1 := p.l1
  have ln : (os ++ List.replicate (os.length + 1) (0 : Int)).length = 2 * os.length + 1 := by rw [List.length_append, List.length_replicate]; omega
  have s1 : OkS (os ++ List.replicate (os.length + 1) (0 : Int)).length (some (((os.length : Nat) : Int), ns)) := ⟨by omega, ne_len (by omega), by rw [ln]; omega, p.nb⟩
  have s2 : OkS (os ++ List.replicate (os.length + 1) (0 : Int)).length (some (((2 * os.length : Nat) : Int), [1])) := ⟨by omega, by simp, by rw [ln]; show ((2 * os.length : Nat) : Int) + 1 ≤ _; omega, fun z hz => by rw [List.mem_singleton.mp hz]; decide⟩
  have st : ∀ x ∈ (plB os ns c).sts, OkS (os ++ List.replicate (os.length + 1) (0 : Int)).length x := fun x hx => by
    cases c with
    | true =>
      have hx' : x ∈ [some (((os.length : Nat) : Int), ns), none, some (((2 * os.length : Nat) : Int), [1])] := hx
      simp only [List.mem_cons, List.not_mem_nil, or_false] at hx'
      rcases hx' with rfl | rfl | rfl
      · exact s1
      · exact True.intro
      · exact s2
    | false =>
      have hx' : x ∈ [some (((os.length : Nat) : Int), ns), some (((2 * os.length : Nat) : Int), [1])] := hx
      simp only [List.mem_cons, List.not_mem_nil, or_false] at hx'
      rcases hx' with rfl | rfl
      · exact s1
      · exact s2
  refine ⟨by show 1 ≤ (os ++ _).length; omega, by show (os ++ _).length ≤ 24; omega, fun z hz => ?_, (by decide : (1 : Int) ≤ 1), (by decide : (1 : Int) ≤ 24), st, (by cases c; exact (show 2 ≤ 40 by decide); exact (show 3 ≤ 40 by decide)), Nat.le_trans (allP_tot st) ?_⟩
  · rcases List.mem_append.mp hz with h | h
    · exact p.ob z h
    · rw [(List.mem_replicate.mp h).2]
      decide
  · cases c with
    | true =>
      show ns.length + (0 + (1 + 0)) ≤ 40
      omega
    | false =>
      show ns.length + (1 + 0) ≤ 40
      omega
theorem tot_lgS {ns : List Int} {n : Nat} {a b c : Bool} : tot (lgS ns n a b c) = 2 * ns.length + 2 ∧ (lgS ns n a b c).length ≤ 7 := by
  unfold lgS wS
  cases a <;> cases b <;> cases c <;> refine ⟨?_, ?_⟩ <;> first | (simp [tot_cons, stl]; done) | (simp; done) | (simp [tot, stl]; omega)
theorem okL {os ns : List Int} (p : Pr os ns) (a b c : Bool) : OkP (plL os ns a b c) := by
  have pl := p.l
  have p7 := p.l7
  have p1 := p.l1
  have ln : (List.replicate (os.length + 1) (0 : Int) ++ os).length = 2 * os.length + 1 := by rw [List.length_append, List.length_replicate]; omega
  have st : ∀ x ∈ lgS ns os.length a b c, OkS (List.replicate (os.length + 1) (0 : Int) ++ os).length x := fun x hx => by
    rw [ln]
    rcases wS_mem hx with rfl | rfl | ⟨q, hq, rfl⟩
    · exact True.intro
    · exact ⟨Int.le_refl 0, ne_len (by omega), by omega, p.nb⟩
    · simp only [List.mem_cons, List.not_mem_nil, or_false] at hq
      rcases hq with rfl | rfl | rfl
      · exact ⟨by omega, by simp, by show ((os.length : Nat) : Int) + 1 ≤ _; omega, fun z hz => by rw [List.mem_singleton.mp hz]; decide⟩
      · exact ⟨by omega, ne_len (by omega), by omega, p.nb⟩
      · exact ⟨by omega, by simp, by show ((os.length : Nat) : Int) + 1 ≤ _; omega, fun z hz => by rw [List.mem_singleton.mp hz]; decide⟩
  obtain ⟨t1, t2⟩ := tot_lgS (ns := ns) (n := os.length) (a := a) (b := b) (c := c)
  refine ⟨by show 1 ≤ (List.replicate _ _ ++ os).length; omega, by show (List.replicate _ _ ++ os).length ≤ 24; omega, fun z hz => ?_, (by decide : (1 : Int) ≤ 1), (by decide : (1 : Int) ≤ 24), st, Nat.le_trans t2 (by decide), Nat.le_trans (allP_tot st) (by show tot (lgS ns os.length a b c) ≤ 40; omega)⟩
  rcases List.mem_append.mp hz with h | h
  · rw [(List.mem_replicate.mp h).2]
    decide
  · exact p.ob z h
theorem s0_made {C : Addr} {G : Hp} {y dy : Addr} (hy : G y = none) (hdy : G dy = none) : Same G (upd (upd G dy (.own y)) y (.ins C dy [])) := fun b o e => by
  rw [upd_ne (ne_of_none e hy), upd_ne (ne_of_none e hdy)]
  exact e
theorem GuV.same {H H' : Hp} {g : Addr} {gs : List Ptn} (h : GuV H g gs) (s : Same H H') : GuV H' g gs := by
  obtain ⟨xs, h1, h2⟩ := h
  exact ⟨xs, s _ _ h1, L2.Paired.mapP h2 fun _ _ z => z.same s⟩
theorem rep_ivs : ∀ n : Nat, (List.replicate n [V.int 0]).flatten = ivs (List.replicate n 0)
  | 0 => rfl
  | n + 1 => by
    rw [List.replicate_succ, List.flatten_cons, rep_ivs n, List.replicate_succ]
    rfl
theorem wOk_of {K : PySem.W.Frag} {H : Hp} {u v : V} {du dv : PyData} (hu : Dx K H u du) (hv : Dx K H v dv) (h : wOk du dv = true) : ∃ a b os ns, u = .ref a ∧ v = .ref b ∧ H a = some (.tup (ivs os)) ∧ H b = some (.tup (ivs ns)) ∧ Pr os ns := by
  unfold wOk at h
  rw [Bool.and_eq_true, Bool.and_eq_true, Bool.and_eq_true] at h
  obtain ⟨⟨⟨h1, h2⟩, h3⟩, h4⟩ := h
  obtain ⟨a, os, rfl, ha, rfl, o1, ob⟩ := worths_of hu h1
  obtain ⟨b, ns, rfl, hb, rfl, n1, nb⟩ := worths_of hv h2
  have l1 : lenD (.tuple (dvs os)) = os.length := by show (dvs os).length = _; unfold dvs; rw [List.length_map]
  have l2 : lenD (.tuple (dvs ns)) = ns.length := by show (dvs ns).length = _; unfold dvs; rw [List.length_map]
  have h3 := of_decide_eq_true h3
  have h4 := of_decide_eq_true h4
  rw [l1, l2] at h3
  rw [l1] at h4
  exact ⟨a, b, os, ns, rfl, rfl, ha, hb, h3, o1, h4, ob, nb⟩
theorem bars_of {K : PySem.W.Frag} {H : Hp} : ∀ {xs : List V} {ds : List PyData}, DxAll K H xs ds → ds.all boolQ = true → ∃ bs : List Bool, xs = bs.map V.bl
  | _, _, .nil, _ => ⟨[], rfl⟩
  | _, _, .cons h t, q => by
    rw [List.all_cons, Bool.and_eq_true] at q
    obtain ⟨bs, e⟩ := bars_of t q.2
    cases h with
    | bl b => exact ⟨b :: bs, by rw [e]; rfl⟩
    | _ => cases q.1
theorem barQ_of {K : PySem.W.Frag} {H : Hp} {n : Nat} {c : V} {dc : PyData} (h : Dx K H c dc) (q : barQ n dc = true) : ∃ (a : Addr) (bs : List Bool), c = .ref a ∧ H a = some (.tup (bs.map V.bl)) ∧ bs.length = n := by
  cases h with
  | tup e t =>
    have q : (_ && _) = true := q
    rw [Bool.and_eq_true] at q
    obtain ⟨bs, eb⟩ := bars_of t q.2
    subst eb
    refine ⟨_, bs, rfl, e, ?_⟩
    have l := t.len
    rw [List.length_map] at l
    exact l.trans (of_decide_eq_true q.1)
  | _ => cases q
def sp_mk2 (K : PySem.W.Frag) (IW : Addr) : Sp := fun vs H Q E => ∃ (u v : V) (du dv : PyData), vs = [u, v] ∧ Dx K H u du ∧ Dx K H v dv ∧ WdD du ∧ WdD dv ∧ (wOk du dv = false → ∀ H', Same H H' → E (.ref IW) none H') ∧ (wOk du dv = true → ∀ x H', Same H H' → Q x H')
def sp_mk3 (K : PySem.W.Frag) (IW IB : Addr) (bq : PyData → Bool) : Sp := fun vs H Q E => ∃ (u v c : V) (du dv dc : PyData), vs = [u, v, c] ∧ Dx K H u du ∧ Dx K H v dv ∧ Dx K H c dc ∧ WdD du ∧ WdD dv ∧ WdD dc ∧ (wOk du dv = false → ∀ H', Same H H' → E (.ref IW) none H') ∧
  (wOk du dv = true → bq dc = false → ∀ H', Same H H' → E (.ref IB) none H') ∧ (wOk du dv = true → bq dc = true → ∀ x H', Same H H' → Q x H')
section
variable {P : Program} {w : World} {K : PySem.W.Frag} {mg : Str → Option Value} {base : Heap}
theorem ok_straight {f C fI IW : Addr} {fd fdI : FuncData} (F : Fun K "straight" "straight" s_straight f fd) (T : Txt mg) (TC : PlanC K mg C) (M_Plan : Mk K C fI)
    (G_Plan : FnOk P w K mg base CX0 6 fI fdI ["self", "base", "width", "steps"] (sp_initX C)) (b_Plan : Binds K fdI ["self", "base", "width", "steps"] [])
    (c_check_worths : CalX P w K mg base 4 "_check_worths" ["olds", "news"] (sp_checkW K IW)) (c_mixed : Cal P w K mg base 1 "_mixed" ["olds", "news", "first", "while_so"] sp_mixed0) : FnOk P w K mg base (L2.CX P w) 8 f fd ["olds", "news"] (sp_mk2 K IW) := by
  refine F.okX sc_straight (fun vs H Q E h => ?_) (fun cdv A outer s H vs Q E hr h => ?_)
  · obtain ⟨_, _, _, _, rfl, _⟩ := h
    rfl
  obtain ⟨u, v, du, dv, rfl, hu, hv, lu, lv, k1, k2⟩ := h
  refine ⟨_, (pss_cons (ps_expr (pe_calX c_check_worths hr (outE (passes_call (takes_of rfl rfl rfl rfl) (fun _ _ _ _ h => h))) (pa_cons (pv 0) (pa_cons (pv 1) pa_nil))))
    (pss_one (ps_ret (pe_tup' (pa_cons (pe_make M_Plan G_Plan (hr.mono (by decide)) rfl TC.mgC b_Plan .nil pass0 (pa_cons (pv 0) (pa_cons pe_int (pa_cons (pe_lst' (pa_cons (pe_tup' (pa_cons pe_int (pa_cons (pv 1) pa_nil))) pa_nil)) pa_nil)))) (pa_cons (pe_cal c_mixed hr (pa_cons (pv 0) (pa_cons (pv 1) (pa_cons pe_int (pa_cons pe_dnewK pa_nil))))) pa_nil)))))), ?_⟩
  refine ⟨_, rfl, _, rfl, u, v, du, dv, rfl, hu, hv, lu, lv, k1, fun e H1 s1 => ?_⟩
  obtain ⟨a, b, os, ns, rfl, rfl, ha, hb, p⟩ := wOk_of hu hv e
  refine ⟨_, rfl, _, rfl, szr, fun t1 H2 n2 s2 h2 => ⟨szr, fun l1 H3 n3 s3 h3 => fun x dx hx hdx ndx => ?_⟩⟩
  have S3 := s1.trans (s2.trans s3)
  have sm := s0_made (C := C) hx hdx
  refine made_outW (K := K) (pl := plS os ns) rfl hx sm upd_same (sm _ _ (S3 _ _ ha)) (sm _ _ h3) (.cons ⟨t1, b, rfl, sm _ _ (s3 _ _ h2), sm _ _ (S3 _ _ hb)⟩ .nil) (okS p) fun I0 z0 n0 => ⟨rfl, ?_⟩
  obtain ⟨sl, ql, el, pF, _⟩ := n0.ex
  have S0 := S3.trans z0
  refine ⟨_, rfl, _, rfl, fun d nd => ⟨a, b, d, os, ns, rfl, same_new nd _ _ (S0 _ _ ha), same_new nd _ _ (S0 _ _ hb), upd_same, p.l, p.l7, fun g I1 s4 ng gu => ⟨szr, fun t I2 n5 s5 h5 => ?_⟩⟩⟩
  have S5 := (same_new (o := .dK []) nd).trans (s4.trans s5)
  exact k2 e (.ref t) I2 (S0.trans S5)
theorem ok_switched {f C fI IW IB : Addr} {fd fdI : FuncData} (F : Fun K "switched" "switched" s_switched f fd) (T : Txt mg) (TC : PlanC K mg C) (M_Plan : Mk K C fI)
    (G_Plan : FnOk P w K mg base CX0 6 fI fdI ["self", "base", "width", "steps"] (sp_initX C)) (b_Plan : Binds K fdI ["self", "base", "width", "steps"] [])
    (c_check_worths : CalX P w K mg base 4 "_check_worths" ["olds", "news"] (sp_checkW K IW)) (c_check_barriers : CalX P w K mg base 1 "_check_barriers" ["many", "barriers"] (sp_checkB K IB)) (c_with_barriers : Cal P w K mg base 1 "_with_barriers" ["writes", "barriers"] sp_withB)
    (c_unlike : Cal P w K mg base 1 "_unlike" ["news", "first", "switch"] sp_unlike) : FnOk P w K mg base (L2.CX P w) 8 f fd ["olds", "news", "barriers"] (sp_mk3 K IW IB (barQ 1)) := by
  refine F.okX sc_switched (fun vs H Q E h => ?_) (fun cdv A outer s H vs Q E hr h => ?_)
  · obtain ⟨_, _, _, _, _, _, rfl, _⟩ := h
    rfl
  obtain ⟨u, v, cv, du, dv, dc, rfl, hu, hv, hcv, lu, lv, lc, k1, k2, k3⟩ := h
  refine ⟨_, (pss_cons (ps_expr (pe_calX c_check_worths hr (outE (passes_call (takes_of rfl rfl rfl rfl) (fun _ _ _ _ h => h))) (pa_cons (pv 0) (pa_cons (pv 1) pa_nil))))
    (pss_cons (ps_expr (pe_calX c_check_barriers hr (outE (passes_call (takes_of rfl rfl rfl rfl) (fun _ _ _ _ h => h))) (pa_cons pe_int (pa_cons (pv 2) pa_nil))))
    (pss_cons (ps_set (i := 3) sc_switched.nd rfl (Or.inl rfl) (pe_callB call_len' (by rfl) T.len (by decide +kernel) (pa_cons (pv 0) pa_nil)))
    (pss_cons (ps_set (i := 4) sc_switched.nd rfl (Or.inl rfl) (pe_op op_mul pe_int (pv 3)))
    (pss_cons (ps_set (i := 5) sc_switched.nd rfl (Or.inl rfl) (pe_cal c_with_barriers hr (pa_cons (pe_lst' (pa_cons (pe_tup' (pa_cons (pv 3) (pa_cons (pv 1) pa_nil))) (pa_cons (pe_tup' (pa_cons (pv 4) (pa_cons (pe_tup' (pa_cons pe_int pa_nil)) pa_nil))) pa_nil))) (pa_cons (pv 2) pa_nil))))
    (pss_one (ps_ret (pe_tup' (pa_cons (pe_make M_Plan G_Plan (hr.mono (by decide)) rfl TC.mgC b_Plan .nil pass0 (pa_cons (pe_op op_catT' (pv 0) (pe_op op_repT' (pe_tup' (pa_cons pe_int pa_nil)) (pe_op op_add (pv 3) pe_int))) (pa_cons pe_int (pa_cons (pv 5) pa_nil)))) (pa_cons (pe_cal c_unlike hr (pa_cons (pv 1) (pa_cons (pv 3) (pa_cons (pv 4) pa_nil)))) pa_nil)))))))))), ?_⟩
  refine ⟨_, rfl, _, rfl, u, v, du, dv, rfl, hu, hv, lu, lv, k1, fun e H1 s1 => ?_⟩
  obtain ⟨a, b, os, ns, rfl, rfl, ha, hb, p⟩ := wOk_of hu hv e
  refine ⟨_, rfl, 1, cv, dc, rfl, Dx.same s1 hcv, lc, fun q H2 s2 => k2 e q H2 (s1.trans s2), fun q H2 s2 => ?_⟩
  obtain ⟨c, bs, rfl, hc, bl⟩ := barQ_of hcv q
  obtain ⟨z, rfl⟩ : ∃ z, bs = [z] := by
    match bs, bl with
    | [z], _ => exact ⟨z, rfl⟩
  have S2 := s1.trans s2
  refine ⟨_, rfl, a, _, rfl, .inr (S2 _ _ ha), ?_⟩
  rw [ivs_len]
  refine ⟨_, rfl, 2, ((os.length : Nat) : Int), rfl, rfl, by left; decide, ?_⟩
  refine ⟨_, rfl, _, rfl, szr, fun t1 H3 n3 s3 h3 => ⟨_, rfl, szr, fun u2 H4 n4 s4 h4 => ⟨szr, fun t2 H5 n5 s5 h5 => ⟨szr, fun l H6 n6 s6 h6 => ?_⟩⟩⟩⟩
  have S6 := S2.trans (s3.trans (s4.trans (s5.trans s6)))
  refine ⟨_, rfl, l, c, .ref t1, [.ref t2], [z], rfl, h6, S6 _ _ hc, rfl, (show 1 ≤ 100 by decide), fun ls H7 s7 n7 h7 => ?_⟩
  have h7 : H7 ls = some (.lst (if z = true then [V.ref t1, .non, .ref t2] else [.ref t1, .ref t2])) := by
    rw [h7]
    cases z <;> rfl
  have nsn : (((os.length : Nat) : Int) + 1).toNat = os.length + 1 := by omega
  have p7 := p.l7
  refine ⟨_, rfl, szr, fun zt H8 n8 s8 h8 => ⟨_, rfl, _, _, rfl, rfl, zt, _, _, rfl, rfl, h8, by simp, by omega, by omega, by simp, fun rp H9 s9 h9 => ?_⟩⟩
  rw [nsn, rep_ivs] at h9
  have S9 := S6.trans (s7.trans (s8.trans s9))
  refine ⟨a, rp, _, _, rfl, rfl, S9 _ _ ha, h9, sz (by rw [ivs_len, ivs_len, List.length_replicate]; omega), fun ca Ha sa ha' => ⟨_, rfl, fun x dx hx hdx ndx => ?_⟩⟩
  have ha' : Ha ca = some (.tup (ivs (plB os ns z).cs)) := by
    rw [ha']
    unfold ivs
    rw [← List.map_append]
    rfl
  have Sa := S9.trans sa
  have sm := s0_made (C := C) hx hdx
  have sl7 : Same H7 Ha := s8.trans (s9.trans sa)
  have z2 : V.int (2 * ((os.length : Nat) : Int)) = V.int (((2 * os.length : Nat)) : Int) := congrArg V.int (by omega)
  have q1 : ∀ {G : Hp}, Same Ha G → StepV G (.ref t1) (some (((os.length : Nat) : Int), ns)) := fun {G} sg => ⟨t1, b, rfl, sg _ _ (sl7 _ _ (s7 _ _ (s6 _ _ (s5 _ _ (s4 _ _ h3))))), sg _ _ (Sa _ _ hb)⟩
  have q2 : ∀ {G : Hp}, Same Ha G → StepV G (.ref t2) (some (((2 * os.length : Nat) : Int), [1])) := fun {G} sg => ⟨t2, u2, rfl, by rw [← z2]; exact sg _ _ (sl7 _ _ (s7 _ _ (s6 _ _ h5))), sg _ _ (sl7 _ _ (s7 _ _ (s6 _ _ (s5 _ _ h4))))⟩
  have pr : ∀ {G : Hp}, Same Ha G → Paired (StepV G) (if z = true then [V.ref t1, .non, .ref t2] else [.ref t1, .ref t2]) (plB os ns z).sts := fun {G} sg => by
    cases z with
    | true => exact .cons (q1 sg) (.cons rfl (.cons (q2 sg) .nil))
    | false => exact .cons (q1 sg) (.cons (q2 sg) .nil)
  refine made_outW (K := K) (pl := plB os ns z) rfl hx sm upd_same (sm _ _ ha') (sm _ _ (sl7 _ _ h7)) (pr sm) (okB p z) fun I0 z0 n0 => ⟨rfl, ?_⟩
  obtain ⟨sl, ql, el, pF, _⟩ := n0.ex
  have S0 := Sa.trans z0
  refine ⟨_, rfl, _, rfl, _, rfl, b, ns, os.length, 2 * os.length, by rfl, by have := p.l; omega, S0 _ _ hb, by have := p.l; omega, fun g I1 s10 ng gu => ⟨szr, fun t I2 n11 s11 h11 => ?_⟩⟩
  have S5 := s10.trans s11
  exact k3 e q (.ref t) I2 (S0.trans S5)
theorem ok_logged {f C fI IW IB : Addr} {fd fdI : FuncData} (F : Fun K "logged" "logged" s_logged f fd) (T : Txt mg) (TC : PlanC K mg C) (M_Plan : Mk K C fI)
    (G_Plan : FnOk P w K mg base CX0 6 fI fdI ["self", "base", "width", "steps"] (sp_initX C)) (b_Plan : Binds K fdI ["self", "base", "width", "steps"] [])
    (c_check_worths : CalX P w K mg base 4 "_check_worths" ["olds", "news"] (sp_checkW K IW)) (c_check_barriers : CalX P w K mg base 1 "_check_barriers" ["many", "barriers"] (sp_checkB K IB)) (c_with_barriers : Cal P w K mg base 1 "_with_barriers" ["writes", "barriers"] sp_withB)
    (c_mixed : Cal P w K mg base 1 "_mixed" ["olds", "news", "first", "while_so"] sp_mixed) (c_unlike : Cal P w K mg base 1 "_unlike" ["news", "first", "switch"] sp_unlike) : FnOk P w K mg base (L2.CX P w) 8 f fd ["olds", "news", "barriers"] (sp_mk3 K IW IB (barQ 3)) := by
  refine F.okX sc_logged (fun vs H Q E h => ?_) (fun cdv A outer s H vs Q E hr h => ?_)
  · obtain ⟨_, _, _, _, _, _, rfl, _⟩ := h
    rfl
  obtain ⟨u, v, cv, du, dv, dc, rfl, hu, hv, hcv, lu, lv, lc, kW, kB, kR⟩ := h
  refine ⟨_, (pss_cons (ps_expr (pe_calX c_check_worths hr (outE (passes_call (takes_of rfl rfl rfl rfl) (fun _ _ _ _ h => h))) (pa_cons (pv 0) (pa_cons (pv 1) pa_nil))))
    (pss_cons (ps_expr (pe_calX c_check_barriers hr (outE (passes_call (takes_of rfl rfl rfl rfl) (fun _ _ _ _ h => h))) (pa_cons pe_int (pa_cons (pv 2) pa_nil))))
    (pss_cons (ps_set (i := 3) sc_logged.nd rfl (Or.inl rfl) (pe_callB call_len' (by rfl) T.len (by decide +kernel) (pa_cons (pv 0) pa_nil)))
    (pss_cons (ps_set (i := 4) sc_logged.nd rfl (Or.inl rfl) (pe_lst' (pa_cons (pe_tup' (pa_cons pe_int (pa_cons (pv 1) pa_nil))) (pa_cons (pe_tup' (pa_cons (pv 3) (pa_cons (pe_tup' (pa_cons pe_int pa_nil)) pa_nil))) (pa_cons (pe_tup' (pa_cons (pe_op op_add (pv 3) pe_int) (pa_cons (pv 1) pa_nil))) (pa_cons (pe_tup' (pa_cons (pv 3) (pa_cons (pe_tup' (pa_cons pe_int pa_nil)) pa_nil))) pa_nil))))))
    (pss_cons (ps_set (i := 5) sc_logged.nd rfl (Or.inl rfl) (pe_op op_cat' (pe_cal c_unlike hr (pa_cons (pv 1) (pa_cons pe_int (pa_cons (pv 3) pa_nil)))) (pe_cal c_mixed hr (pa_cons (pv 0) (pa_cons (pv 1) (pa_cons (pe_op op_add (pv 3) pe_int) (pa_cons (pe_disp (pps_cons (pv 3) (pe_tup' (pa_cons pe_int pa_nil)) pps_nil) rfl rfl (by simp) (by decide)) pa_nil)))))))
    (pss_one (ps_ret (pe_tup' (pa_cons (pe_make M_Plan G_Plan (hr.mono (by decide)) rfl TC.mgC b_Plan .nil pass0 (pa_cons (pe_op op_catT' (pe_op op_repT' (pe_tup' (pa_cons pe_int pa_nil)) (pe_op op_add (pv 3) pe_int)) (pv 0)) (pa_cons pe_int (pa_cons (pe_cal c_with_barriers hr (pa_cons (pv 4) (pa_cons (pv 2) pa_nil))) pa_nil)))) (pa_cons (pv 5) pa_nil)))))))))), ?_⟩
  refine ⟨_, rfl, _, rfl, u, v, du, dv, rfl, hu, hv, lu, lv, kW, fun e H1 s1 => ?_⟩
  obtain ⟨a, b, os, ns, rfl, rfl, ha, hb, p⟩ := wOk_of hu hv e
  refine ⟨_, rfl, 3, cv, dc, rfl, Dx.same s1 hcv, lc, fun q H2 s2 => kB e q H2 (s1.trans s2), fun q H2 s2 => ?_⟩
  obtain ⟨c, bs, rfl, hc, bl⟩ := barQ_of hcv q
  obtain ⟨x, y, z, rfl⟩ : ∃ x y z, bs = [x, y, z] := by
    match bs, bl with
    | [x, y, z], _ => exact ⟨x, y, z, rfl⟩
  have S2 := s1.trans s2
  refine ⟨_, rfl, a, _, rfl, .inr (S2 _ _ ha), ?_⟩
  rw [ivs_len]
  have pl := p.l
  have p7 := p.l7
  refine ⟨_, rfl, szr, fun t1 H3 n3 s3 h3 => ⟨_, rfl, szr, fun u2 H4 n4 s4 h4 => ⟨szr, fun t2 H5 n5 s5 h5 => ⟨_, rfl, _, _, rfl, rfl, _, rfl, szr, fun t3 H6 n6 s6 h6 => ⟨_, rfl, szr, fun u4 H7 n7 s7 h7 => ⟨szr, fun t4 H8 n8 s8 h8 => ⟨szr, fun l H9 n9 s9 h9 => ?_⟩⟩⟩⟩⟩⟩⟩
  have z1 : V.int (((os.length : Nat) : Int) + 1) = V.int (((os.length + 1 : Nat)) : Int) := congrArg V.int (by omega)
  have h6 : H6 t3 = some (.tup [.int (((os.length + 1 : Nat)) : Int), .ref b]) := h6
  have S9 := S2.trans (s3.trans (s4.trans (s5.trans (s6.trans (s7.trans (s8.trans s9))))))
  refine ⟨_, rfl, _, rfl, b, ns, 0, os.length, rfl, by omega, S9 _ _ hb, by omega, fun g1 J1 r1 ng1 gu1 => ?_⟩
  refine ⟨_, rfl, _, rfl, _, rfl, _, _, rfl, rfl, fun d nd => ⟨_, rfl, szr, fun u J2 nu r2 hu => ⟨r2 _ _ upd_same, [(.inl ((os.length : Nat) : Int), .ref u)], rfl, (show 1 ≤ 15 by decide), ?_⟩⟩⟩
  have hud : u ≠ d := fun z => by rw [z, upd_same] at nu; cases nu
  have SD : Same J1 (upd J2 d (.dK (mergeK [] [(.inl ((os.length : Nat) : Int), .ref u)]))) := same_mut ((same_new nd).trans r2) nd
  have pd : PatV (upd J2 d (.dK (mergeK [] [(.inl ((os.length : Nat) : Int), .ref u)]))) d [(os.length, [0])] := by
    refine .mk ⟨[(.inl ((os.length : Nat) : Int), .ref u)], ?_, .cons ⟨rfl, u, rfl, by rw [upd_ne hud]; exact hu⟩ .nil⟩
    rw [upd_same, merge_rows _ [] (by simp)]
    rfl
  generalize upd J2 d (.dK (mergeK [] [(.inl ((os.length : Nat) : Int), .ref u)])) = J3 at SD pd ⊢
  have R3 := S9.trans (r1.trans SD)
  refine ⟨a, b, d, os, ns, os.length, os.length + 1, rfl, R3 _ _ ha, R3 _ _ hb, pd, Nat.lt_succ_self _, pl, p7, fun g2 J4 r4 ng2 gu2 => ?_⟩
  obtain ⟨xs1, hg1, pg1⟩ := gu1.same (SD.trans r4)
  obtain ⟨xs2, hg2, pg2⟩ := gu2
  have xl1 : xs1.length ≤ 7 := by
    rw [paired_len pg1]
    unfold unlL
    rw [List.length_map, List.length_range]
    omega
  have xl2 : xs2.length ≤ 49 := by
    rw [paired_len pg2]
    have h := mixO_len os ns os.length (os.length + 1) (chgL os ns (List.range os.length)) (chgL os ns (List.range os.length))
    have l : (chgL os ns (List.range os.length)).length ≤ 7 := by
      unfold chgL
      have := List.length_filter_le (fun i => decide (gI os i ≠ gI ns i)) (List.range os.length)
      rw [List.length_range] at this
      omega
    have h2 := Nat.mul_le_mul l l
    show (mixO os ns _ _ _ _).length ≤ 49
    omega
  refine ⟨g1, g2, _, _, rfl, rfl, hg1, hg2, sz (by omega), fun gg J5 ngg r5 hgg => ?_⟩
  have R5 := R3.trans (r4.trans r5)
  have nsn : (((os.length : Nat) : Int) + 1).toNat = os.length + 1 := by omega
  refine ⟨szr, fun zt I1 m1 q1 k1 => ⟨_, rfl, _, _, rfl, rfl, zt, _, _, rfl, rfl, k1, by simp, by omega, by omega, by simp, fun rp I2 q2 k2 => ?_⟩⟩
  rw [nsn, rep_ivs] at k2
  have R7 := R5.trans (q1.trans q2)
  refine ⟨_, rfl, rp, a, _, _, rfl, rfl, k2, R7 _ _ ha, sz (by rw [ivs_len, ivs_len, List.length_replicate]; omega), fun ca I3 q3 k3 => ?_⟩
  have k3 : I3 ca = some (.tup (ivs (plL os ns x y z).cs)) := by
    rw [k3]
    unfold ivs
    rw [← List.map_append]
    rfl
  have R8 := R7.trans q3
  have L8 : Same H9 I3 := r1.trans (SD.trans (r4.trans (r5.trans (q1.trans (q2.trans q3)))))
  refine ⟨_, rfl, _, rfl, l, c, .ref t1, [.ref t2, .ref t3, .ref t4], [x, y, z], rfl, L8 _ _ h9, R8 _ _ hc, rfl, (show 3 ≤ 100 by decide), fun ls I4 q4 nls k4 => ?_⟩
  have R9 := R8.trans q4
  have L9 := L8.trans q4
  refine fun o dx hx hdx ndx => ?_
  have sm := s0_made (C := C) hx hdx
  have T1 : Same H3 I4 := s4.trans (s5.trans (s6.trans (s7.trans (s8.trans (s9.trans L9)))))
  have T2 : Same H5 I4 := s6.trans (s7.trans (s8.trans (s9.trans L9)))
  have T3 : Same H6 I4 := s7.trans (s8.trans (s9.trans L9))
  have T4 : Same H8 I4 := s9.trans L9
  have st : ∀ {G : Hp}, Same I4 G → Paired (StepV G) (wv (.ref t1) ([V.ref t2, .ref t3, .ref t4].zip [x, y, z])) (plL os ns x y z).sts := fun {G} sg =>
    wv_wS (sv (sg _ _ (T1 _ _ h3)) (sg _ _ (R9 _ _ hb))) (.cons ⟨(sv (sg _ _ (T2 _ _ h5)) (sg _ _ (T2 _ _ (s5 _ _ h4)))), rfl⟩ (.cons ⟨(sv (sg _ _ (T3 _ _ h6)) (sg _ _ (R9 _ _ hb))), rfl⟩ (.cons ⟨(sv (sg _ _ (T4 _ _ h8)) (sg _ _ (T4 _ _ (s8 _ _ h7)))), rfl⟩ .nil)))
  refine made_outW (K := K) (pl := plL os ns x y z) rfl hx sm upd_same (sm _ _ (q4 _ _ k3)) (sm _ _ k4) (st sm) (okL p x y z) fun I5 z5 n5 => ⟨rfl, ?_⟩
  obtain ⟨sl, ql, el, pF, _⟩ := n5.ex
  refine ⟨_, rfl, szr, fun t I6 n6 q6 k6 => ?_⟩
  exact kR e q (.ref t) I6 (R9.trans (z5.trans q6))
theorem ok_log_rules {f IW IB : Addr} {fd : FuncData} (F : Fun K "log_rules" "log_rules" s_log_rules f fd) (T : Txt mg) (XB : ExcC K mg "InvalidBarriers" IB) (c_check_worths : CalX P w K mg base 4 "_check_worths" ["olds", "news"] (sp_checkW K IW)) (c_with_barriers : Cal P w K mg base 1 "_with_barriers" ["writes", "barriers"] sp_withB) :
    FnOk P w K mg base (L2.CX P w) 5 f fd ["olds", "news", "barrier"] (sp_mk3 K IW IB boolQ) := by
  refine F.okX sc_log_rules (fun vs H Q E h => ?_) (fun cdv A outer s H vs Q E hr h => ?_)
  · obtain ⟨_, _, _, _, _, _, rfl, _⟩ := h
    rfl
  obtain ⟨u, v, cv, du, dv, dc, rfl, hu, hv, hcv, lu, lv, lc, kW, kB, kR⟩ := h
  refine ⟨_, (pss_cons (ps_expr (pe_calX c_check_worths hr (outE (passes_call (takes_of rfl rfl rfl rfl) (fun _ _ _ _ h => h))) (pa_cons (pv 0) (pa_cons (pv 1) pa_nil))))
    (pss_cons (ps_if (pt_not (pt_val (pe_callB call_isi' (by rfl) T.isinstance (by decide +kernel) (pa_cons (pv 2) (pa_cons (pe_bltn (v := .ty "bool") (by rfl) T.bool (by decide +kernel) rfl) pa_nil)))))
      (pss_one (ps_raise rfl (takes_of rfl rfl rfl rfl) (pmk_own PySem.F.excBase_ValueError XB.xP XB.gP XB.kP (raises_own XB.bP XB.tP) rfl)))
      pss_nil)
    (pss_cons (ps_set (i := 3) sc_log_rules.nd rfl (Or.inl rfl) (pe_callB call_len' (by rfl) T.len (by decide +kernel) (pa_cons (pv 0) pa_nil)))
    (pss_cons (ps_set (i := 4) sc_log_rules.nd rfl (Or.inl rfl) (pe_cal c_with_barriers hr (pa_cons (pe_lst' (pa_cons (pe_tup' (pa_cons (pe_op op_add (pv 3) pe_int) (pa_cons (pv 1) pa_nil))) (pa_cons (pe_tup' (pa_cons (pv 3) (pa_cons (pe_tup' (pa_cons pe_int pa_nil)) pa_nil))) pa_nil))) (pa_cons (pe_tup' (pa_cons (pv 2) pa_nil)) pa_nil))))
    (pss_one (ps_ret (pe_lst' (pa_cons (pe_tup' (pa_cons (pe_disp (pps_cons (pv 3) (pe_tup' (pa_cons pe_int pa_nil)) pps_nil) rfl rfl (by simp) (by decide)) (pa_cons (pv 4) pa_nil))) pa_nil)))))))), ?_⟩
  refine ⟨_, rfl, _, rfl, u, v, du, dv, rfl, hu, hv, lu, lv, kW, fun e H1 s1 => ?_⟩
  obtain ⟨a, b, os, ns, rfl, rfl, ha, hb, p⟩ := wOk_of hu hv e
  have pl := p.l
  have p7 := p.l7
  obtain ⟨tn, ty, eb⟩ := dx_bool (Dx.same s1 hcv)
  refine ⟨_, rfl, _, tn, "bool", rfl, ty, by decide, ?_⟩
  rw [eb]
  cases q : boolQ dc with
  | false => exact ⟨_, rfl, kB e q H1 s1⟩
  | true =>
  obtain ⟨z, rfl⟩ : ∃ z, cv = .bl z := by
    cases hcv with
    | bl b => exact ⟨b, rfl⟩
    | _ => cases q
  refine ⟨_, rfl, iteF ?_⟩
  refine ⟨_, rfl, a, _, rfl, .inr (s1 _ _ ha), ?_⟩
  rw [ivs_len]
  refine ⟨_, rfl, _, _, rfl, rfl, _, rfl, szr, fun t3 H6 n6 s6 h6 => ⟨_, rfl, szr, fun u4 H7 n7 s7 h7 => ⟨szr, fun t4 H8 n8 s8 h8 => ⟨szr, fun l H9 n9 s9 h9 => ⟨_, rfl, szr, fun c I1 m1 q1 k1 => ?_⟩⟩⟩⟩⟩
  have z1 : V.int (((os.length : Nat) : Int) + 1) = V.int (((os.length + 1 : Nat)) : Int) := congrArg V.int (by omega)
  have h6 : H6 t3 = some (.tup [.int (((os.length + 1 : Nat)) : Int), .ref b]) := h6
  refine ⟨l, c, .ref t3, [.ref t4], [z], rfl, q1 _ _ h9, k1, rfl, (show 1 ≤ 100 by decide), fun ls I2 q2 nls k2 => ?_⟩
  refine fun d nd => ⟨_, rfl, szr, fun u J2 nu r2 hu => ⟨r2 _ _ upd_same, [(.inl ((os.length : Nat) : Int), .ref u)], rfl, (show 1 ≤ 15 by decide), ?_⟩⟩
  have hud : u ≠ d := fun z => by rw [z, upd_same] at nu; cases nu
  have SD : Same I2 (upd J2 d (.dK (mergeK [] [(.inl ((os.length : Nat) : Int), .ref u)]))) := same_mut ((same_new nd).trans r2) nd
  have pd : PatV (upd J2 d (.dK (mergeK [] [(.inl ((os.length : Nat) : Int), .ref u)]))) d [(os.length, [1])] := by
    refine .mk ⟨[(.inl ((os.length : Nat) : Int), .ref u)], ?_, .cons ⟨rfl, u, rfl, by rw [upd_ne hud]; exact hu⟩ .nil⟩
    rw [upd_same, merge_rows _ [] (by simp)]
    rfl
  generalize upd J2 d (.dK (mergeK [] [(.inl ((os.length : Nat) : Int), .ref u)])) = J3 at SD pd ⊢
  refine ⟨_, rfl, szr, fun t I3 m3 q3 k3 => ⟨szr, fun r I4 m4 q4 k4 => ?_⟩⟩
  have S9 : Same H H9 := s1.trans (s6.trans (s7.trans (s8.trans s9)))
  have L9 : Same H9 I4 := q1.trans (q2.trans (SD.trans (q3.trans q4)))
  exact kR e q (.ref r) I4 (S9.trans L9)
end
end Af

set_option Elab.async false
set_option linter.all false
set_option maxRecDepth 100000
set_option maxHeartbeats 8000000
namespace Af
open PySem L2
abbrev s_l_error : Stmt := top 43
abbrev N_l_error : List Str := ["_law_road", "_law_olds", "_law_news", "_law_chosen", "_law_caught", "_law_found", "e", "_law_kinds"]
theorem sc_l_error : FnScope N_l_error ["_law_road", "_law_olds", "_law_news", "_law_chosen"] (defScope s_l_error) := ⟨rfl, rfl, rfl, by decide +kernel, rfl, by decide +kernel, by decide +kernel⟩

/-- whether the barriers of this way are right -/
def chQ (r : Int) (dc : PyData) : Bool := if r = 3 then boolQ dc else if r = 1 then barQ 1 dc else barQ 3 dc
def errT (r : Int) (du dv dc : PyData) : Str := if wOk du dv = true then (if r = 0 then "right" else if chQ r dc = true then "right" else "barriers") else "worths"
theorem errW {r : Int} {du dv dc : PyData} (e : wOk du dv = false) : errT r du dv dc = "worths" := by unfold errT; rw [if_neg (by rw [e]; decide)]
theorem errB {r : Int} {du dv dc : PyData} (e : wOk du dv = true) (n : r ≠ 0) (q : chQ r dc = false) : errT r du dv dc = "barriers" := by unfold errT; rw [if_pos e, if_neg n, if_neg (by rw [q]; decide)]
theorem errR {r : Int} {du dv dc : PyData} (e : wOk du dv = true) (q : r = 0 ∨ chQ r dc = true) : errT r du dv dc = "right" := by
  unfold errT
  rw [if_pos e]
  rcases q with q | q
  · rw [if_pos q]
  · rw [if_pos q]
    split <;> rfl
def sp_error (K : PySem.W.Frag) : Sp := fun vs H Q _ => ∃ (r : Int) (u v c : V) (du dv dc : PyData), vs = [.int r, u, v, c] ∧ Dx K H u du ∧ Dx K H v dv ∧ Dx K H c dc ∧ WdD du ∧ WdD dv ∧ WdD dc ∧ ∀ H', Same H H' → Q (.str (errT r du dv dc)) H'
/-- the classes of errors that the law names -/
structure ErrC (K : PySem.W.Frag) (mg : Str → Option Value) (CF IC IP IW IB : Addr) : Prop where
  gF : mg "FallError" = some (.ref CF)
  gC : mg "InvalidContent" = some (.ref IC)
  gP : mg "InvalidPlan" = some (.ref IP)
  gW : mg "InvalidWorths" = some (.ref IW)
  gB : mg "InvalidBarriers" = some (.ref IB)
  exW : PySem.W.exmOne K (.ref IW) (.ref CF) = some true
  exB : PySem.W.exmOne K (.ref IB) (.ref CF) = some true
  cW : L2.ExcC K IW
  cB : L2.ExcC K IB
  nW : PySem.W.kitAny K (.ref IW) [.ref IC, .ref IP] = some false
  nB : PySem.W.kitAny K (.ref IB) [.ref IC, .ref IP] = some false
  kW : PySem.W.kitOne K (.ref IW) (.ref IW) = some true ∧ PySem.W.kitOne K (.ref IW) (.ref IB) = some false
  kB : PySem.W.kitOne K (.ref IB) (.ref IW) = some false ∧ PySem.W.kitOne K (.ref IB) (.ref IB) = some true
/-- what an error of class D is told as -/
structure Kin (K : PySem.W.Frag) (CF IC IP IW IB D : Addr) (t : Str) : Prop where
  ex : PySem.W.exmOne K (.ref D) (.ref CF) = some true
  c : L2.ExcC K D
  no : PySem.W.kitAny K (.ref D) [.ref IC, .ref IP] = some false
  kk : ∃ (b1 b2 : Bool) (j : Nat), PySem.W.kitOne K (.ref D) (.ref IW) = some b1 ∧ PySem.W.kitOne K (.ref D) (.ref IB) = some b2 ∧ [b1, b2].count true = 1 ∧
    [V.bl b1, .bl b2][j]? = some (.bl true) ∧ (∀ (m : Nat) (z' : V), m < j → [V.bl b1, .bl b2][m]? = some z' → eqV z' (.bl true) = false) ∧ [V.str "worths", .str "barriers"][j]? = some (.str t)
theorem ErrC.kinW {K : PySem.W.Frag} {mg : Str → Option Value} {CF IC IP IW IB : Addr} (X : ErrC K mg CF IC IP IW IB) : Kin K CF IC IP IW IB IW "worths" :=
  ⟨X.exW, X.cW, X.nW, true, false, 0, X.kW.1, X.kW.2, rfl, rfl, fun m _ h => absurd h (Nat.not_lt_zero m), rfl⟩
theorem ErrC.kinB {K : PySem.W.Frag} {mg : Str → Option Value} {CF IC IP IW IB : Addr} (X : ErrC K mg CF IC IP IW IB) : Kin K CF IC IP IW IB IB "barriers" :=
  ⟨X.exB, X.cB, X.nB, false, true, 1, X.kB.1, X.kB.2, rfl, rfl, fun m z h e => by
    obtain rfl : m = 0 := by omega
    cases e
    rfl, rfl⟩
section
variable {P : Program} {w : World} {K : PySem.W.Frag} {mg : Str → Option Value} {base : Heap}
def tb_l_error (K : PySem.W.Frag) (IW IB : Addr) (W : WX) : TS := tIfS (tTest (tOp rEq (tVar 0) (tC (.int 0)))) (tAsg (tCallS (sp_mk2 K IW) (WE W) (tCons (tVar 1) (tCons (tVar 2) tNil))) (gName 5))
  (tIfS (tTest (tOp rEq (tVar 0) (tC (.int 3)))) (tAsg (tCallS (sp_mk3 K IW IB boolQ) (WE W) (tCons (tVar 1) (tCons (tVar 2) (tCons (tVar 3) tNil)))) (gName 5))
    (tAsg (tIf (tTest (tOp rEq (tVar 0) (tC (.int 1)))) (tCallS (sp_mk3 K IW IB (barQ 1)) (WE W) (tCons (tVar 1) (tCons (tVar 2) (tCons (tVar 3) tNil)))) (tCallS (sp_mk3 K IW IB (barQ 3)) (WE W) (tCons (tVar 1) (tCons (tVar 2) (tCons (tVar 3) tNil))))) (gName 5)))
def ts_l_error (_ : Addr) (_ : Value) (_ : Option Addr) : TS := tAsg (tVar 6) (gName 4)
theorem ok_error {f CF IC IP IW IB : Addr} {fd : FuncData} (F : Fun K "_law_error" "_law_error" s_l_error f fd) (T : Txt mg) (X : ErrC K mg CF IC IP IW IB)
    (c_straight : CalX P w K mg base 8 "straight" ["olds", "news"] (sp_mk2 K IW)) (c_switched : CalX P w K mg base 8 "switched" ["olds", "news", "barriers"] (sp_mk3 K IW IB (barQ 1))) (c_logged : CalX P w K mg base 8 "logged" ["olds", "news", "barriers"] (sp_mk3 K IW IB (barQ 3)))
    (c_log_rules : CalX P w K mg base 5 "log_rules" ["olds", "news", "barrier"] (sp_mk3 K IW IB boolQ)) : FnOk P w K mg base CX0 9 f fd ["_law_road", "_law_olds", "_law_news", "_law_chosen"] (sp_error K) := by
  have g_FallError := X.gF
  have g_C := X.gC
  have g_P := X.gP
  have g_W := X.gW
  have g_B := X.gB
  refine F.ok sc_l_error (fun vs H Q E h => ?_) (fun cdv A outer s H vs Q E hr h => ?_)
  · obtain ⟨_, _, _, _, _, _, _, rfl, _⟩ := h
    rfl
  obtain ⟨r, u, v, c, du, dv, dc, rfl, hu, hv, hc, lu, lv, lc, k⟩ := h
  refine ⟨_, (pss_cons (ps_set (i := 4) sc_l_error.nd rfl (Or.inl rfl) pe_non)
    (pss_cons (ps_set (i := 5) sc_l_error.nd rfl (Or.inl rfl) pe_non)
    (pss_cons (ps_try_hold (i := 6) (tb := tb_l_error K IW IB) (ts := ts_l_error) (Wout := fun _ _ _ _ => False) rfl rfl sc_l_error.nd rfl rfl rfl ⟨rfl, by decide, .inl g_FallError⟩ takes0
      (fun W pn xe tk _ => (pss_one (ps_if (pt_cmpR op_eq (pv 0) pe_int (nomark _))
      (pss_one (ps_set (i := 5) sc_l_error.nd rfl (Or.inl rfl) (pe_calX c_straight hr (fun σ => passAt tk σ) (pa_cons (pv 1) (pa_cons (pv 2) pa_nil)))))
      (pss_one (ps_if (pt_cmpR op_eq (pv 0) pe_int (nomark _))
      (pss_one (ps_set (i := 5) sc_l_error.nd rfl (Or.inl rfl) (pe_calX c_log_rules hr (fun σ => passAt tk σ) (pa_cons (pv 1) (pa_cons (pv 2) (pa_cons (pv 3) pa_nil))))))
      (pss_one (ps_set (i := 5) sc_l_error.nd rfl (Or.inl rfl) (pe_ifExp (pt_cmpR op_eq (pv 0) pe_int (nomark _)) (pe_calX c_switched hr (fun σ => passAt tk σ) (pa_cons (pv 1) (pa_cons (pv 2) (pa_cons (pv 3) pa_nil)))) (pe_calX c_logged hr (fun σ => passAt tk σ) (pa_cons (pv 1) (pa_cons (pv 2) (pa_cons (pv 3) pa_nil))))))))))))
      (fun a oe cls d pn hz hf => (pss_one (ps_set (i := 4) sc_l_error.nd rfl (Or.inl rfl) (pv 6)))))
    (pss_cons (ps_cut (ps_if (PW.pt (pw_or (pt_cmpR op_isN (pv 4) pe_non (nomark _)) (pw_or1 (pt_val (pe_callB call_isHeldTE (by rfl) T.isinstance (by decide +kernel) (pa_cons (pv 4) (pa_cons (pe_tup' (pa_cons (pe_glob (v := .ref IC) rfl g_C rfl) (pa_cons (pe_glob (v := .ref IP) rfl g_P rfl) pa_nil))) pa_nil)))))))
      (pss_one (ps_ret (pe_ifExp (pt_cmpR op_isN (pv 4) pe_non (nomark _)) pe_str pe_str)))
      pss_nil))
    (pss_cons (ps_set (i := 7) sc_l_error.nd rfl (Or.inl rfl) (pe_lst' (pa_cons (pe_callB call_isHeldE (by rfl) T.isinstance (by decide +kernel) (pa_cons (pv 4) (pa_cons (pe_glob (v := .ref IW) rfl g_W rfl) pa_nil))) (pa_cons (pe_callB call_isHeldE (by rfl) T.isinstance (by decide +kernel) (pa_cons (pv 4) (pa_cons (pe_glob (v := .ref IB) rfl g_B rfl) pa_nil))) pa_nil))))
    (pss_one (ps_ret (pe_ifExp (pt_cmpR op_eq (pe_bm PySem.F.plainAttrs_list PySem.F.slot_list_count PySem.F.type_list_count (mt_countT (Nat.lt_of_le_of_lt (Nat.add_le_add_left (show 1 ≤ 64 by decide) _) hr.units)) (pv 7) (pa_cons pe_bl pa_nil)) pe_int (nomark _)) (pe_ix ix_seq' (pe_lst' (pa_cons pe_str (pa_cons pe_str pa_nil))) (pe_bm PySem.F.plainAttrs_list PySem.F.slot_list_index PySem.F.type_list_index mt_index (pv 7) (pa_cons pe_bl pa_nil)) (fun _ _ => rfl)) pe_str)))))))), ?_⟩
  refine ⟨_, rfl, rfl, _, rfl, ite2 (fun z => ?_) (fun z => ?_)⟩
  · have r0 : r = 0 := by have := of_decide_eq_true z; injection this
    exact ⟨_, rfl, _, rfl, u, v, du, dv, rfl, hu, hv, lu, lv, fun e => fun H1 s1 => by
    have kin := X.kinW
    rw [errW e] at k
    refine ⟨true, kin.ex, fun _ b na => ⟨_, rfl, ?_⟩, fun y => by cases y⟩
    obtain ⟨b1, b2, j, q1, q2, q4, q5, q6, q7⟩ := kin.kk
    have sb := s1.trans (same_new (o := HeldE (.ref IW) none b) na)
    have hb : (L2.upd H1 b (HeldE (.ref IW) none b)) b = some (HeldE (.ref IW) none b) := upd_same
    refine ⟨fun σ' H' => σ' = [some (.int r), some u, some v, some c, some (.ref b), some .non, none, none] ∧ Same H H' ∧ H' b = some (HeldE (.ref IW) none b), ?_, ?_⟩
    · exact ⟨_, rfl, rfl, _, rfl, iteF ⟨_, rfl, szr, fun tp H3 _ s3 h3 => ⟨IW, kin.c, b, tp, _, _, false, rfl, s3 _ _ hb, h3, .cons (.own IC) (.cons (.own IP) .nil), kin.no, _, rfl, iteF ⟨rfl, sb.trans s3, s3 _ _ hb⟩⟩⟩⟩
    rintro _ H2 ⟨rfl, sb, hb⟩
    refine ⟨_, rfl, IW, kin.c, b, _, _, b1, rfl, hb, .own IW, q1, _, rfl, IW, kin.c, b, _, _, b2, rfl, hb, .own IB, q2, szr, fun kl H3 n3 s3 h3 => ?_⟩
    refine ⟨_, rfl, .inl ⟨rfl, _, SqL.of h3⟩, kl, [b1, b2], rfl, rfl, SqL.of h3, rfl, _, rfl, ?_⟩
    rw [q4]
    exact iteT ⟨szr, fun tl H4 n4 s4 h4 => ⟨_, rfl, .inl ⟨rfl, _, SqL.of (s4 _ _ h3)⟩, kl, _, .bl true, j, .bl true, rfl, rfl, SqL.of (s4 _ _ h3), rfl, rfl, q5, rfl, q6, tl, _, _, _, rfl, rfl, .inl h4, atI_nat q7, k H4 (sb.trans (s3.trans s4))⟩⟩, fun e => fun _ H1 s1 => by
    rw [errR e (.inl r0)] at k
    refine ⟨fun σ' H' => False, ?_, fun _ _ q => q.elim⟩
    exact ⟨_, rfl, rfl, _, rfl, iteT ⟨_, rfl, rfl, _, rfl, iteT (k H1 s1)⟩⟩⟩
  have r0 : r ≠ 0 := fun e => z (by rw [e]; rfl)
  refine ⟨_, rfl, rfl, _, rfl, ite2 (fun z3 => ?_) (fun z3 => ?_)⟩
  · have r3 : r = 3 := by have := of_decide_eq_true z3; injection this
    have eq : chQ r dc = boolQ dc := if_pos r3
    exact ⟨_, rfl, _, rfl, _, rfl, u, v, c, du, dv, dc, rfl, hu, hv, hc, lu, lv, lc, fun e => fun H1 s1 => by
    have kin := X.kinW
    rw [errW e] at k
    refine ⟨true, kin.ex, fun _ b na => ⟨_, rfl, ?_⟩, fun y => by cases y⟩
    obtain ⟨b1, b2, j, q1, q2, q4, q5, q6, q7⟩ := kin.kk
    have sb := s1.trans (same_new (o := HeldE (.ref IW) none b) na)
    have hb : (L2.upd H1 b (HeldE (.ref IW) none b)) b = some (HeldE (.ref IW) none b) := upd_same
    refine ⟨fun σ' H' => σ' = [some (.int r), some u, some v, some c, some (.ref b), some .non, none, none] ∧ Same H H' ∧ H' b = some (HeldE (.ref IW) none b), ?_, ?_⟩
    · exact ⟨_, rfl, rfl, _, rfl, iteF ⟨_, rfl, szr, fun tp H3 _ s3 h3 => ⟨IW, kin.c, b, tp, _, _, false, rfl, s3 _ _ hb, h3, .cons (.own IC) (.cons (.own IP) .nil), kin.no, _, rfl, iteF ⟨rfl, sb.trans s3, s3 _ _ hb⟩⟩⟩⟩
    rintro _ H2 ⟨rfl, sb, hb⟩
    refine ⟨_, rfl, IW, kin.c, b, _, _, b1, rfl, hb, .own IW, q1, _, rfl, IW, kin.c, b, _, _, b2, rfl, hb, .own IB, q2, szr, fun kl H3 n3 s3 h3 => ?_⟩
    refine ⟨_, rfl, .inl ⟨rfl, _, SqL.of h3⟩, kl, [b1, b2], rfl, rfl, SqL.of h3, rfl, _, rfl, ?_⟩
    rw [q4]
    exact iteT ⟨szr, fun tl H4 n4 s4 h4 => ⟨_, rfl, .inl ⟨rfl, _, SqL.of (s4 _ _ h3)⟩, kl, _, .bl true, j, .bl true, rfl, rfl, SqL.of (s4 _ _ h3), rfl, rfl, q5, rfl, q6, tl, _, _, _, rfl, rfl, .inl h4, atI_nat q7, k H4 (sb.trans (s3.trans s4))⟩⟩, fun e q => fun H1 s1 => by
    have kin := X.kinB
    rw [errB e r0 (by rw [eq]; exact q)] at k
    refine ⟨true, kin.ex, fun _ b na => ⟨_, rfl, ?_⟩, fun y => by cases y⟩
    obtain ⟨b1, b2, j, q1, q2, q4, q5, q6, q7⟩ := kin.kk
    have sb := s1.trans (same_new (o := HeldE (.ref IB) none b) na)
    have hb : (L2.upd H1 b (HeldE (.ref IB) none b)) b = some (HeldE (.ref IB) none b) := upd_same
    refine ⟨fun σ' H' => σ' = [some (.int r), some u, some v, some c, some (.ref b), some .non, none, none] ∧ Same H H' ∧ H' b = some (HeldE (.ref IB) none b), ?_, ?_⟩
    · exact ⟨_, rfl, rfl, _, rfl, iteF ⟨_, rfl, szr, fun tp H3 _ s3 h3 => ⟨IB, kin.c, b, tp, _, _, false, rfl, s3 _ _ hb, h3, .cons (.own IC) (.cons (.own IP) .nil), kin.no, _, rfl, iteF ⟨rfl, sb.trans s3, s3 _ _ hb⟩⟩⟩⟩
    rintro _ H2 ⟨rfl, sb, hb⟩
    refine ⟨_, rfl, IB, kin.c, b, _, _, b1, rfl, hb, .own IW, q1, _, rfl, IB, kin.c, b, _, _, b2, rfl, hb, .own IB, q2, szr, fun kl H3 n3 s3 h3 => ?_⟩
    refine ⟨_, rfl, .inl ⟨rfl, _, SqL.of h3⟩, kl, [b1, b2], rfl, rfl, SqL.of h3, rfl, _, rfl, ?_⟩
    rw [q4]
    exact iteT ⟨szr, fun tl H4 n4 s4 h4 => ⟨_, rfl, .inl ⟨rfl, _, SqL.of (s4 _ _ h3)⟩, kl, _, .bl true, j, .bl true, rfl, rfl, SqL.of (s4 _ _ h3), rfl, rfl, q5, rfl, q6, tl, _, _, _, rfl, rfl, .inl h4, atI_nat q7, k H4 (sb.trans (s3.trans s4))⟩⟩, fun e q => fun _ H1 s1 => by
    rw [errR e (.inr (by rw [eq]; exact q))] at k
    refine ⟨fun σ' H' => False, ?_, fun _ _ q => q.elim⟩
    exact ⟨_, rfl, rfl, _, rfl, iteT ⟨_, rfl, rfl, _, rfl, iteT (k H1 s1)⟩⟩⟩
  have r3 : r ≠ 3 := fun e => z3 (by rw [e]; rfl)
  refine ⟨_, rfl, rfl, _, rfl, ite2 (fun z1 => ?_) (fun z1 => ?_)⟩
  · have r1 : r = 1 := by have := of_decide_eq_true z1; injection this
    have eq : chQ r dc = barQ 1 dc := by unfold chQ; rw [if_neg r3, if_pos r1]
    exact ⟨_, rfl, _, rfl, _, rfl, u, v, c, du, dv, dc, rfl, hu, hv, hc, lu, lv, lc, fun e => fun H1 s1 => by
    have kin := X.kinW
    rw [errW e] at k
    refine ⟨true, kin.ex, fun _ b na => ⟨_, rfl, ?_⟩, fun y => by cases y⟩
    obtain ⟨b1, b2, j, q1, q2, q4, q5, q6, q7⟩ := kin.kk
    have sb := s1.trans (same_new (o := HeldE (.ref IW) none b) na)
    have hb : (L2.upd H1 b (HeldE (.ref IW) none b)) b = some (HeldE (.ref IW) none b) := upd_same
    refine ⟨fun σ' H' => σ' = [some (.int r), some u, some v, some c, some (.ref b), some .non, none, none] ∧ Same H H' ∧ H' b = some (HeldE (.ref IW) none b), ?_, ?_⟩
    · exact ⟨_, rfl, rfl, _, rfl, iteF ⟨_, rfl, szr, fun tp H3 _ s3 h3 => ⟨IW, kin.c, b, tp, _, _, false, rfl, s3 _ _ hb, h3, .cons (.own IC) (.cons (.own IP) .nil), kin.no, _, rfl, iteF ⟨rfl, sb.trans s3, s3 _ _ hb⟩⟩⟩⟩
    rintro _ H2 ⟨rfl, sb, hb⟩
    refine ⟨_, rfl, IW, kin.c, b, _, _, b1, rfl, hb, .own IW, q1, _, rfl, IW, kin.c, b, _, _, b2, rfl, hb, .own IB, q2, szr, fun kl H3 n3 s3 h3 => ?_⟩
    refine ⟨_, rfl, .inl ⟨rfl, _, SqL.of h3⟩, kl, [b1, b2], rfl, rfl, SqL.of h3, rfl, _, rfl, ?_⟩
    rw [q4]
    exact iteT ⟨szr, fun tl H4 n4 s4 h4 => ⟨_, rfl, .inl ⟨rfl, _, SqL.of (s4 _ _ h3)⟩, kl, _, .bl true, j, .bl true, rfl, rfl, SqL.of (s4 _ _ h3), rfl, rfl, q5, rfl, q6, tl, _, _, _, rfl, rfl, .inl h4, atI_nat q7, k H4 (sb.trans (s3.trans s4))⟩⟩, fun e q => fun H1 s1 => by
    have kin := X.kinB
    rw [errB e r0 (by rw [eq]; exact q)] at k
    refine ⟨true, kin.ex, fun _ b na => ⟨_, rfl, ?_⟩, fun y => by cases y⟩
    obtain ⟨b1, b2, j, q1, q2, q4, q5, q6, q7⟩ := kin.kk
    have sb := s1.trans (same_new (o := HeldE (.ref IB) none b) na)
    have hb : (L2.upd H1 b (HeldE (.ref IB) none b)) b = some (HeldE (.ref IB) none b) := upd_same
    refine ⟨fun σ' H' => σ' = [some (.int r), some u, some v, some c, some (.ref b), some .non, none, none] ∧ Same H H' ∧ H' b = some (HeldE (.ref IB) none b), ?_, ?_⟩
    · exact ⟨_, rfl, rfl, _, rfl, iteF ⟨_, rfl, szr, fun tp H3 _ s3 h3 => ⟨IB, kin.c, b, tp, _, _, false, rfl, s3 _ _ hb, h3, .cons (.own IC) (.cons (.own IP) .nil), kin.no, _, rfl, iteF ⟨rfl, sb.trans s3, s3 _ _ hb⟩⟩⟩⟩
    rintro _ H2 ⟨rfl, sb, hb⟩
    refine ⟨_, rfl, IB, kin.c, b, _, _, b1, rfl, hb, .own IW, q1, _, rfl, IB, kin.c, b, _, _, b2, rfl, hb, .own IB, q2, szr, fun kl H3 n3 s3 h3 => ?_⟩
    refine ⟨_, rfl, .inl ⟨rfl, _, SqL.of h3⟩, kl, [b1, b2], rfl, rfl, SqL.of h3, rfl, _, rfl, ?_⟩
    rw [q4]
    exact iteT ⟨szr, fun tl H4 n4 s4 h4 => ⟨_, rfl, .inl ⟨rfl, _, SqL.of (s4 _ _ h3)⟩, kl, _, .bl true, j, .bl true, rfl, rfl, SqL.of (s4 _ _ h3), rfl, rfl, q5, rfl, q6, tl, _, _, _, rfl, rfl, .inl h4, atI_nat q7, k H4 (sb.trans (s3.trans s4))⟩⟩, fun e q => fun _ H1 s1 => by
    rw [errR e (.inr (by rw [eq]; exact q))] at k
    refine ⟨fun σ' H' => False, ?_, fun _ _ q => q.elim⟩
    exact ⟨_, rfl, rfl, _, rfl, iteT ⟨_, rfl, rfl, _, rfl, iteT (k H1 s1)⟩⟩⟩
  · have r1 : r ≠ 1 := fun e => z1 (by rw [e]; rfl)
    have eq : chQ r dc = barQ 3 dc := by unfold chQ; rw [if_neg r3, if_neg r1]
    exact ⟨_, rfl, _, rfl, _, rfl, u, v, c, du, dv, dc, rfl, hu, hv, hc, lu, lv, lc, fun e => fun H1 s1 => by
    have kin := X.kinW
    rw [errW e] at k
    refine ⟨true, kin.ex, fun _ b na => ⟨_, rfl, ?_⟩, fun y => by cases y⟩
    obtain ⟨b1, b2, j, q1, q2, q4, q5, q6, q7⟩ := kin.kk
    have sb := s1.trans (same_new (o := HeldE (.ref IW) none b) na)
    have hb : (L2.upd H1 b (HeldE (.ref IW) none b)) b = some (HeldE (.ref IW) none b) := upd_same
    refine ⟨fun σ' H' => σ' = [some (.int r), some u, some v, some c, some (.ref b), some .non, none, none] ∧ Same H H' ∧ H' b = some (HeldE (.ref IW) none b), ?_, ?_⟩
    · exact ⟨_, rfl, rfl, _, rfl, iteF ⟨_, rfl, szr, fun tp H3 _ s3 h3 => ⟨IW, kin.c, b, tp, _, _, false, rfl, s3 _ _ hb, h3, .cons (.own IC) (.cons (.own IP) .nil), kin.no, _, rfl, iteF ⟨rfl, sb.trans s3, s3 _ _ hb⟩⟩⟩⟩
    rintro _ H2 ⟨rfl, sb, hb⟩
    refine ⟨_, rfl, IW, kin.c, b, _, _, b1, rfl, hb, .own IW, q1, _, rfl, IW, kin.c, b, _, _, b2, rfl, hb, .own IB, q2, szr, fun kl H3 n3 s3 h3 => ?_⟩
    refine ⟨_, rfl, .inl ⟨rfl, _, SqL.of h3⟩, kl, [b1, b2], rfl, rfl, SqL.of h3, rfl, _, rfl, ?_⟩
    rw [q4]
    exact iteT ⟨szr, fun tl H4 n4 s4 h4 => ⟨_, rfl, .inl ⟨rfl, _, SqL.of (s4 _ _ h3)⟩, kl, _, .bl true, j, .bl true, rfl, rfl, SqL.of (s4 _ _ h3), rfl, rfl, q5, rfl, q6, tl, _, _, _, rfl, rfl, .inl h4, atI_nat q7, k H4 (sb.trans (s3.trans s4))⟩⟩, fun e q => fun H1 s1 => by
    have kin := X.kinB
    rw [errB e r0 (by rw [eq]; exact q)] at k
    refine ⟨true, kin.ex, fun _ b na => ⟨_, rfl, ?_⟩, fun y => by cases y⟩
    obtain ⟨b1, b2, j, q1, q2, q4, q5, q6, q7⟩ := kin.kk
    have sb := s1.trans (same_new (o := HeldE (.ref IB) none b) na)
    have hb : (L2.upd H1 b (HeldE (.ref IB) none b)) b = some (HeldE (.ref IB) none b) := upd_same
    refine ⟨fun σ' H' => σ' = [some (.int r), some u, some v, some c, some (.ref b), some .non, none, none] ∧ Same H H' ∧ H' b = some (HeldE (.ref IB) none b), ?_, ?_⟩
    · exact ⟨_, rfl, rfl, _, rfl, iteF ⟨_, rfl, szr, fun tp H3 _ s3 h3 => ⟨IB, kin.c, b, tp, _, _, false, rfl, s3 _ _ hb, h3, .cons (.own IC) (.cons (.own IP) .nil), kin.no, _, rfl, iteF ⟨rfl, sb.trans s3, s3 _ _ hb⟩⟩⟩⟩
    rintro _ H2 ⟨rfl, sb, hb⟩
    refine ⟨_, rfl, IB, kin.c, b, _, _, b1, rfl, hb, .own IW, q1, _, rfl, IB, kin.c, b, _, _, b2, rfl, hb, .own IB, q2, szr, fun kl H3 n3 s3 h3 => ?_⟩
    refine ⟨_, rfl, .inl ⟨rfl, _, SqL.of h3⟩, kl, [b1, b2], rfl, rfl, SqL.of h3, rfl, _, rfl, ?_⟩
    rw [q4]
    exact iteT ⟨szr, fun tl H4 n4 s4 h4 => ⟨_, rfl, .inl ⟨rfl, _, SqL.of (s4 _ _ h3)⟩, kl, _, .bl true, j, .bl true, rfl, rfl, SqL.of (s4 _ _ h3), rfl, rfl, q5, rfl, q6, tl, _, _, _, rfl, rfl, .inl h4, atI_nat q7, k H4 (sb.trans (s3.trans s4))⟩⟩, fun e q => fun _ H1 s1 => by
    rw [errR e (.inr (by rw [eq]; exact q))] at k
    refine ⟨fun σ' H' => False, ?_, fun _ _ q => q.elim⟩
    exact ⟨_, rfl, rfl, _, rfl, iteT ⟨_, rfl, rfl, _, rfl, iteT (k H1 s1)⟩⟩⟩
end
end Af

set_option Elab.async false
set_option linter.all false
set_option maxRecDepth 100000
namespace L2
open PySem PySem.Spec PyProof.Rows
/-! list(range(8, 0, -1)) -/
section
variable {X : Cx}
def tLst3 (ta : TA) : TE := fun σ H Q => ta σ H fun vs H1 => vs = [.int 8, .int 0, .int (-1)] ∧ ∀ q, H1 q = none → Q (.ref q) (upd H1 q (.lst ([8, 7, 6, 5, 4, 3, 2, 1].map V.int)))
theorem pe_listRg3 {a b c : Expr} {ta : TA} {p p2 pos pos2 : Pos} (hg : Gl X "list") (hm : X.mg "list" = none) (hg2 : Gl X "range") (hm2 : X.mg "range" = none) (ha : PA X [a, b, c] ta) (hc : X.calm = true := by rfl)
    (hs : starEach [a, b, c] X.env = (false, eval a X.env) :: starEach [b, c] X.env := by rfl) (hpl : (backTo pos2 (starEach [b, c] X.env)).any (·.1) = false := by rfl)
    (na : starEach [.Call (.Name "range" p2) [a, b, c] [] pos2] X.env = (false, eval (.Call (.Name "range" p2) [a, b, c] [] pos2) X.env) :: starEach [] X.env := by rfl) :
    PE X (.Call (.Name "list" p) [.Call (.Name "range" p2) [a, b, c] [] pos2] [] pos) (tLst3 ta) := by
  refine ⟨fun pins s σ H Q I h => ?_⟩
  have inner : wpAny (model X.prog X.w) X.A (eval (.Call (.Name "range" p2) [a, b, c] [] pos2) X.env) (fun x s' => ∃ r t u v H', x = .ref r ∧ IsRange s'.heap r 8 0 (-1) t u v ∧ Inv X pins σ H' s' ∧ ∀ q, H' q = none → Q (.ref q) (upd H' q (.lst ([8, 7, 6, 5, 4, 3, 2, 1].map V.int)))) X.xe s := by
    refine Call_ (ld_blt I hg2 hm2 boot_range (PyProof.Rows.callWith_type1 (thn (ha.run pos2 pins s σ H _ I h) fun us s1 ⟨vs, H1, I1, r1, q1⟩ => ?_) hs hpl))
    obtain ⟨e, q⟩ := q1
    subst e
    cases r1 with
    | cons r rr =>
      cases rr with
      | cons r' rr =>
        cases rr with
        | cons r'' rr =>
          cases rr
          obtain ⟨t, rfl⟩ := r
          obtain ⟨t', rfl⟩ := r'
          obtain ⟨t'', rfl⟩ := r''
          refine call_range_3 (by decide) ?_ (.inl (PyProof.noPylong_small (by decide +kernel)))
          exact ⟨_, _, _, _, H1, rfl, IsRange.new _ _ _ _ _ _ _, I1.kept (t' := s1.toks) fun b u e => Heap.get?_push_of_some _ e, q⟩
  refine Call_ (ld_blt I hg hm boot_list (PyProof.Rows.callWith_type1 (args_cons (thn inner fun x s1 ⟨r, t, u, v, H1, ex, hr, I1, q⟩ => args_nil ?_) na) na))
  subst ex
  refine call_list_range (n := 8) (I1.ok.hd hc) hr (by decide +kernel) (by decide +kernel) (by decide) fun h' tk acc c' hk e' hi => ?_
  refine ⟨.ref s1.heap.objs.size, upd H1 s1.heap.objs.size (.lst ([8, 7, 6, 5, 4, 3, 2, 1].map V.int)), I1.laid hk (Nat.le_refl _) (show ObjOk X.prog X.w _ _ _ (.lst _) from ⟨?_, acc.toList, c', ?_, ?_⟩), rfl, q _ (I1.hok.fresh (Nat.le_refl _))⟩
  · show 8 ≤ sizeLine
    decide
  · have e : acc.toList.length = 8 := by rw [Array.length_toList]; exact hi.1
    have z := vals_of_get acc.toList (fun m => V.int (8 + (m : Int) * (-1))) fun j u hj => hi.2 j u (by rw [← hj, Array.getElem?_toList])
    rw [e] at z
    exact z
  · rw [Array.toArray_toList]
    exact e'
end
end L2

set_option Elab.async false
set_option linter.all false
set_option maxRecDepth 100000
set_option maxHeartbeats 8000000
namespace Af
open PySem L2
abbrev s_l_pair : Stmt := top 42
abbrev N_l_pair : List Str := ["_law_pen_here", "_law_most", "_law_olds", "_law_news", "_law_k", "_law_one"]
theorem sc_l_pair : FnScope N_l_pair ["_law_pen_here", "_law_most"] (defScope s_l_pair) := ⟨rfl, rfl, rfl, by decide +kernel, rfl, by decide +kernel, by decide +kernel⟩

def sp_pair : Sp := fun vs H Q _ => ∃ (q : Pn) (m : Nat), vs = [.ref q.p, .int 7] ∧ Pen q m H ∧ m + 40 < 1000000000000 ∧ ∀ t a b os ns H', Go q (m + 30) H H' → H' t = some (.tup [.ref a, .ref b]) → H' a = some (.tup (ivs os)) → H' b = some (.tup (ivs ns)) → Pr os ns → Q (.ref t) H'
section
variable {P : Program} {w : World} {K : PySem.W.Frag} {mg : Str → Option Value} {base : Heap}
theorem ok_pair {f : Addr} {fd : FuncData} (F : Fun K "_law_pair" "_law_pair" s_l_pair f fd) (T : Txt mg) (c_l_draw : Cal P w K mg base 2 "_law_draw" ["_law_pen_here", "_law_under"] sp_draw) : FnOk P w K mg base CX0 3 f fd ["_law_pen_here", "_law_most"] sp_pair := by
  refine F.ok sc_l_pair (fun vs H Q E h => ?_) (fun cdv A outer s H vs Q E hr h => ?_)
  · obtain ⟨_, _, rfl, _⟩ := h
    rfl
  obtain ⟨q, m, rfl, pn, hm, k⟩ := h
  refine ⟨_, (pss_cons (ps_setLc (i := 2) (own := [("_law_k", 4)]) (g := (gName 4)) (tt := tYes) rfl sc_l_pair.nd rfl rfl (sw_true rfl rfl rfl (by decide +kernel)) (pi_range1 rfl T.range (pa_cons (pe_op op_add pe_int (pe_cal c_l_draw hr (pa_cons (pv 0) (pa_cons (pv 1) pa_nil)))) pa_nil)) (blkOk_by (own := [("_law_k", 4)]) (N := N_l_pair) (sc := defScope s_l_pair) (by decide +kernel)) (fun _ _ _ _ _ => pg_name (i := 4) sc_l_pair.nd rfl (Or.inl rfl)) (fun _ _ _ _ _ => pts_nil) (fun _ _ _ _ _ => (pe_cal c_l_draw hr (pa_cons (pv 0) (pa_cons pe_int pa_nil)))))
    (pss_cons (ps_setLc (i := 3) (own := [("_law_one", 5)]) (g := (gName 5)) (tt := tYes) rfl sc_l_pair.nd rfl rfl (sw_true rfl rfl rfl (by decide +kernel)) (pi_list (pv 2)) (blkOk_by (own := [("_law_one", 5)]) (N := N_l_pair) (sc := defScope s_l_pair) (by decide +kernel)) (fun _ _ _ _ _ => pg_name (i := 5) sc_l_pair.nd rfl (Or.inl rfl)) (fun _ _ _ _ _ => pts_nil) (fun _ _ _ _ _ => (pe_ifExp (pt_cmpR op_eq (pe_cal c_l_draw hr (pa_cons (pv 0) (pa_cons pe_int pa_nil))) pe_int (nomark _)) (pv 5) (pe_cal c_l_draw hr (pa_cons (pv 0) (pa_cons pe_int pa_nil))))))
    (pss_one (ps_ret (pe_tup' (pa_cons (pe_callTy call_tuple' (by rfl) T.tuple (by decide +kernel) (pa_cons (pv 2) pa_nil)) (pa_cons (pe_callTy call_tuple' (by rfl) T.tuple (by decide +kernel) (pa_cons (pv 3) pa_nil)) pa_nil))))))), ?_⟩
  refine ⟨_, rfl, _, rfl, q, m, 7, rfl, by decide, by decide, pn, by omega, fun d H1 d0 d1 g1 => ⟨_, _, rfl, rfl, _, rfl, by omega, by omega, ?_⟩⟩
  have pn1 := g1.pen
  refine lc_draws (q := q) (m := m + 1) (u := 8) pn1 (by omega) (fun x => rfl) (fun x H4 Q m4 p4 h4 kk => ⟨_, rfl, q, m4, 8, rfl, by decide, by decide, p4, by omega, kk⟩) (fun D H2 os nD g2 h2 hl hb => ?_)
  have lo : os.length = (1 + d).toNat := hl
  have pn2 := g2.pen
  refine ⟨_, rfl, D, rfl, ⟨_, SqL.of h2⟩, fun O nO => lc_list (K := K) (a := D) (xs := ivs os) (fun i I => ∃ zs, Go q (m + 9 + 2 * i) H2 I ∧ I O = some (.lst (ivs zs)) ∧ zs.length = i ∧ ∀ z ∈ zs, 0 ≤ z ∧ z < 8) ?_ ?_ ?_ ?_⟩
  · exact ⟨[], (Go.refl (pn2.mono (by omega))).same (same_new nO), upd_same, rfl, fun z hz => by cases hz⟩
  · rintro i I _ ⟨zs, g, _⟩
    exact SqL.of (g.kp.lst (pn1.free nD).1 h2)
  · rintro i y I hy ⟨zs, g, hO, zl, zb⟩
    have il : i < os.length := by have := (List.getElem?_eq_some_iff.mp hy).1; rw [ivs_len] at this; exact this
    have ey : y = .int (gI os i) := Option.some.inj (hy.symm.trans (ivs_at il))
    subst ey
    have gb : 0 ≤ gI os i ∧ gI os i < 8 := by
      refine hb _ ?_
      unfold gI
      rw [List.getD_eq_getElem?_getD, List.getElem?_eq_getElem il]
      exact List.getElem_mem il
    have last : ∀ {z : Int} {J : Hp}, Go q (m + 9 + 2 * (i + 1)) I J → 0 ≤ z ∧ z < 8 → ∃ acc, J O = some (.lst acc) ∧ acc.length < sizeLine ∧ ∃ zs, Go q (m + 9 + 2 * (i + 1)) H2 (upd J O (.lst (acc ++ [V.int z]))) ∧ (upd J O (.lst (acc ++ [V.int z]))) O = some (.lst (ivs zs)) ∧ zs.length = i + 1 ∧ ∀ z ∈ zs, 0 ≤ z ∧ z < 8 := fun {z J} gj zb' => by
      refine ⟨ivs zs, gj.kp.lst (pn2.free nO).1 hO, szl (by rw [ivs_len]; omega), zs ++ [z], Go.mut pn2 nO (g.trans gj), ?_, by rw [List.length_append, zl]; rfl, fun x hx => ?_⟩
      · rw [upd_same]
        unfold ivs
        rw [List.map_append]
        rfl
      · rcases List.mem_append.mp hx with hx | hx
        · exact zb x hx
        · rw [List.mem_singleton.mp hx]
          exact zb'
    refine ⟨rfl, _, rfl, q, _, 4, rfl, by decide, by decide, g.pen, by omega, fun e J e0 e1 gj => ⟨rfl, _, rfl, ite2 (fun c => ⟨_, rfl, last (gj.mono (by omega)) gb⟩) (fun c => ⟨_, rfl, q, _, 8, rfl, by decide, by decide, gj.pen, by omega, fun z J2 z0 z1 gj2 => last ((gj.trans gj2).mono (by omega)) ⟨z0, z1⟩⟩)⟩⟩
  rintro I ⟨zs, g, hO, zl, zb⟩
  rw [ivs_len] at zl g
  refine ⟨_, rfl, D, _, rfl, .inl (g.kp.lst (pn1.free nD).1 h2), fun a J1 s1 h1 => ⟨_, rfl, O, _, rfl, .inl (s1 _ _ hO), fun b J2 s2 h2' => ⟨szr, fun t J3 n3 s3 h3 => ?_⟩⟩⟩
  exact k t a b os zs J3 ((g1.trans (g2.trans (g.same (s1.trans (s2.trans s3))))).mono (by omega)) h3 (s3 _ _ (s2 _ _ h1)) (s3 _ _ h2') ⟨zl.symm, by omega, by omega, hb, zb⟩
end
end Af

set_option Elab.async false
set_option linter.all false
set_option maxRecDepth 100000
set_option maxHeartbeats 16000000
namespace Af
open PySem L2
abbrev s_l_barriers_right : Stmt := top 44
abbrev N_l_barriers_right : List Str := ["_law_pen_here", "_law_olds", "_law_news", "_law_thing", "_law_road", "_law_good", "_law_odd_here", "_law_one", "_law_spot", "_law_seen"]
theorem sc_l_barriers_right : FnScope N_l_barriers_right ["_law_pen_here", "_law_olds", "_law_news"] (defScope s_l_barriers_right) := ⟨rfl, rfl, rfl, by decide +kernel, rfl, by decide +kernel, by decide +kernel⟩

theorem al_nil {S : PyData → Prop} : ∀ y ∈ ([] : List PyData), S y := fun y hy => by cases hy
theorem al_cons {S : PyData → Prop} {x : PyData} {xs : List PyData} (h : S x) (t : ∀ y ∈ xs, S y) : ∀ y ∈ x :: xs, S y := fun y hy => by
  rcases List.mem_cons.mp hy with rfl | hy
  · exact h
  · exact t y hy
theorem al_app {S : PyData → Prop} {xs ys : List PyData} (h : ∀ y ∈ xs, S y) (t : ∀ y ∈ ys, S y) : ∀ y ∈ xs ++ ys, S y := fun y hy => by
  rcases List.mem_append.mp hy with hy | hy
  · exact h y hy
  · exact t y hy
theorem al_cut {S : PyData → Prop} {xs : List PyData} {lo hi : Option Int} (h : ∀ y ∈ xs, S y) : ∀ y ∈ cutD xs lo hi, S y := fun y hy => h y (List.mem_of_mem_drop (List.mem_of_mem_take hy))
theorem cut_len (xs : List PyData) (lo hi : Option Int) : (cutD xs lo hi).length ≤ xs.length := by
  unfold cutD
  rw [List.length_take, List.length_drop]
  omega
/-- small things: within others, and themselves -/
def AtB (d : PyData) : Prop := Bd 2000 5 d
structure NrB (d : PyData) : Prop where
  w : WdD d
  b : Bd 60000 8 d
theorem wd_flat {d : PyData} (f : flatD d = true) : WdD d := fun ds e => by
  rcases e with rfl | rfl <;> cases f
theorem wd_tup {ds : List PyData} (l : ds.length ≤ 1000) : WdD (.tuple ds) := fun es e => by
  rcases e with e | e <;> cases e
  exact l
theorem wd_lst {ds : List PyData} (l : ds.length ≤ 1000) : WdD (.list ds) := fun es e => by
  rcases e with e | e <;> cases e
  exact l
theorem at_fl {d : PyData} (f : flatD d = true) : AtB d := (Bd.flat f).mono (by decide) (by decide)
theorem fl_bl {b : Bool} : flatD (.bool b) = true := by cases b <;> decide
theorem nb_flat {d : PyData} (f : flatD d = true) : NrB d := ⟨wd_flat f, (Bd.flat f).mono (by decide) (by decide)⟩
theorem nb_tup {ds : List PyData} (h : ∀ d ∈ ds, AtB d) (l : ds.length ≤ 25) : NrB (.tuple ds) := ⟨wd_tup (by omega), (Bd.tup (b := 2000) (n := 5) (k := 25) h l).mono (by decide) (by decide)⟩
theorem nb_lst {ds : List PyData} (h : ∀ d ∈ ds, AtB d) (l : ds.length ≤ 25) : NrB (.list ds) := ⟨wd_lst (by omega), (Bd.lst (b := 2000) (n := 5) (k := 25) h l).mono (by decide) (by decide)⟩
theorem at_tup {ds : List PyData} (h : ∀ d ∈ ds, flatD d = true) (l : ds.length ≤ 25) : AtB (.tuple ds) := (Bd.tup (b := 45) (n := 1) (k := 25) (fun d hd => Bd.flat (h d hd)) l).mono (by decide) (by decide)
theorem at_lst {ds : List PyData} (h : ∀ d ∈ ds, flatD d = true) (l : ds.length ≤ 25) : AtB (.list ds) := (Bd.lst (b := 45) (n := 1) (k := 25) (fun d hd => Bd.flat (h d hd)) l).mono (by decide) (by decide)
theorem bd_dic0 : Bd 45 1 (.dict []) := Bd.flat rfl
theorem nb_dic0 : NrB (.dict []) := ⟨fun ds e => (by rcases e with e | e <;> cases e), bd_dic0.mono (by decide) (by decide)⟩
/-- no barriers for the way r -/
structure ThX (r : Int) (d : PyData) : Prop where
  q : chQ r d = false
  s : NrB d
theorem cut_none : ∀ {ds : List PyData} {y : PyData} {es : List PyData} , boolQ y = false → (ds ++ [y] ++ es).all boolQ = false := fun {ds y es} h => by
  rw [List.all_append, List.all_append]
  show (ds.all boolQ && (boolQ y && true) && es.all boolQ) = false
  rw [h]
  simp
def gdD (r : Int) : List PyData := if r = 1 then [.bool true] else [.bool true, .bool false, .bool true]
/-- a list of things that is still put to: told without the pen's list and itself -/
def LnX (K : PySem.W.Frag) (p : Addr) (H : Hp) (l : Addr) (S : PyData → Prop) (n : Nat) : Prop := ∃ xs ds, H l = some (.lst xs) ∧ DxAll K (hd2 p l H) xs ds ∧ (∀ d ∈ ds, S d) ∧ ds.length ≤ n
def sp_barR : Sp := fun vs H Q _ => ∃ (q : Pn) (m : Nat) (a b : Addr) (os ns : List Int), vs = [.ref q.p, .ref a, .ref b] ∧ Pen q m H ∧ m + 60 < 1000000000000 ∧ H a = some (.tup (ivs os)) ∧ H b = some (.tup (ivs ns)) ∧ Pr os ns ∧ ∀ H', Go q (m + 60) H H' → Q (.bl true) H'
def th0 : List PyData := [.int 0, .int 1, .none, .str "", .str "True", .list [.bool true], .tuple [.bool true], .tuple [], .dict [], .int (10 ^ (39 : Int).toNat)]
theorem th_fl {r : Int} {d : PyData} (q : chQ r d = false) (f : flatD d = true) : ThX r d := ⟨q, nb_flat f⟩
theorem th0_ok : ∀ d ∈ th0, ThX 3 d := by
  unfold th0
  repeat' first | exact al_nil | refine al_cons ?_ ?_
  all_goals first | exact th_fl rfl (by decide +kernel) | exact ⟨rfl, nb_lst (al_cons (at_fl fl_bl) al_nil) (by decide)⟩ | exact ⟨rfl, nb_tup (al_cons (at_fl fl_bl) al_nil) (by decide)⟩ | exact ⟨rfl, nb_tup al_nil (by decide)⟩ | exact ⟨rfl, fun ds e => by rcases e with e | e <;> cases e, bd_dic0.mono (by decide) (by decide)⟩
theorem wOk_ok {os ns : List Int} (p : Pr os ns) : wOk (.tuple (dvs os)) (.tuple (dvs ns)) = true := by
  have w : ∀ {l : List Int}, 1 ≤ l.length → (∀ z ∈ l, 0 ≤ z ∧ z < 8) → worthsD (.tuple (dvs l)) = true := fun {l} h b => by
    show (!(dvs l).isEmpty && (dvs l).all (idxD 8)) = true
    rw [Bool.and_eq_true]
    refine ⟨?_, ?_⟩
    · cases l with
      | nil => exact absurd h (by decide)
      | cons x r => rfl
    · rw [List.all_eq_true]
      intro d hd
      obtain ⟨z, hz, rfl⟩ := dvs_mem hd
      obtain ⟨b1, b2⟩ := b z hz
      show (decide (0 ≤ z) && decide (z < 8)) = true
      rw [decide_eq_true b1, decide_eq_true b2]
      rfl
  have l : ∀ {l : List Int}, lenD (.tuple (dvs l)) = l.length := fun {l} => by
    show (dvs l).length = _
    unfold dvs
    rw [List.length_map]
  unfold wOk
  have := p.l
  rw [w p.l1 p.ob, w (l := ns) (by have := p.l1; omega) p.nb, l, l, decide_eq_true p.l, decide_eq_true p.l7]
  rfl
theorem wd_ints {l : List Int} (h : l.length ≤ 1000) : WdD (.tuple (dvs l)) := wd_tup (by unfold dvs; rw [List.length_map]; exact h)
theorem Evs.lst {K : PySem.W.Frag} {p : Addr} {H0 H : Hp} {σ : L2.St} {t : TA} {ds : List PyData} {Q : VK} (e : Evs K p H0 σ t ds) (s : Same H0 H) (ln : ds.length ≤ 100000) (k : ∀ l xs H', Same H H' → H l = none → H' l = some (.lst xs) → DxAll K (hd2 p l H') xs ds → Q (.ref l) H') : tLst' t σ H Q :=
  e.run s fun xs H1 s1 t1 => ⟨sz (by rw [t1.len]; exact ln), fun l H2 n2 s2 h2 => k l xs H2 (s1.trans s2) (s1.free n2) h2 (DxAll.same (same_hd2 n2 s2) t1)⟩
theorem Evs.forL {K : PySem.W.Frag} {p : Addr} {H0 H : Hp} {σ : L2.St} {t : TA} {ds : List PyData} {g : TG} {tb : TS} {D : Ends} (e : Evs K p H0 σ t ds) (s : Same H0 H) (ln : ds.length ≤ 100000)
    (k : ∀ l xs H', Same H H' → H l = none → H' l = some (.lst xs) → DxAll K (hd2 p l H') xs ds → ∃ W : Nat → Nat → L2.St → Hp → Prop, (∃ m, W 0 m σ H') ∧ ∀ i m σ H, W i m σ H →
      ((Itl K l).stop i H ∧ D.nx σ H) ∨ ((Itl K l).go i H ∧ ∃ N : L2.St → Hp → Prop, (∀ σ' H', N σ' H' → ∃ m', m' < m ∧ W (i + 1) m' σ' H') ∧ ∀ x H', (Itl K l).yld i H x H' → g x σ H' fun σ2 H2 => tb { D with nx := N, ct := N, bk := D.nx } σ2 H2)) :
    tFor (iList K (tLst' t)) g tb D σ H :=
  e.lst s ln fun l xs H' s1 n h t => ⟨l, rfl, ⟨_, SqL.of h⟩, k l xs H' s1 n h t⟩
theorem ne_of_none' {H : Hp} {a b : Addr} {o : HO} (h : H b = some o) (n : H a = none) : a ≠ b := fun e => by
  rw [e, h] at n
  cases n
theorem dx_tupH {K : PySem.W.Frag} {p : Addr} {H : Hp} {v : V} {ds : List PyData} (h : Dx K (hd p H) v (.tuple ds)) : ∃ a xs, v = .ref a ∧ hd p H a = some (.tup xs) ∧ DxAll K (hd p H) xs ds := by
  cases h with
  | tup e t => exact ⟨_, _, rfl, e, t⟩
theorem Ev.asg {K : PySem.W.Frag} {p : Addr} {H0 H : Hp} {σ : L2.St} {te : TE} {d : PyData} {g : TG} {D : Ends} (e : Ev K p H0 σ te d) (s : Same H0 H) (k : ∀ v H', Same H H' → Dx K (hd p H') v d → g v σ H' D.nx) : tAsg te g D σ H := e.run s k
theorem Evs.asgL {K : PySem.W.Frag} {p : Addr} {H0 H : Hp} {σ : L2.St} {t : TA} {ds : List PyData} {g : TG} {D : Ends} (e : Evs K p H0 σ t ds) (s : Same H0 H) (ln : ds.length ≤ 100000) (k : ∀ l xs H', Same H H' → H l = none → H' l = some (.lst xs) → DxAll K (hd2 p l H') xs ds → g (.ref l) σ H' D.nx) : tAsg (tLst' t) g D σ H := e.lst s ln k
theorem Evs.at2 {K : PySem.W.Frag} {p l : Addr} {H : Hp} {σ : L2.St} {t : TA} {ds : List PyData} {zs : List V} {Q : List V → Hp → Prop} (e : Evs K p (hd l H) σ t ds) (hl : H l = some (.lst zs)) (k : ∀ vs H', Same H H' → DxAll K (hd2 p l H') vs ds → Q vs H') : t σ H Q :=
  e.go (hid_lst hl) hd_in fun vs H1 s1 q1 => k vs H1 s1 (by rw [gh_hd2] at q1; exact q1)
theorem Evs.forL2 {K : PySem.W.Frag} {p l : Addr} {H : Hp} {σ : L2.St} {t : TA} {ds : List PyData} {zs : List V} {g : TG} {tb : TS} {D : Ends} (e : Evs K p (hd l H) σ t ds) (hl : H l = some (.lst zs)) (ln : ds.length ≤ 100000)
    (k : ∀ l2 xs H', Same H H' → H l2 = none → H' l2 = some (.lst xs) → DxAll K (hd2 p l H') xs ds → ∃ W : Nat → Nat → L2.St → Hp → Prop, (∃ m, W 0 m σ H') ∧ ∀ i m σ H, W i m σ H →
      ((Itl K l2).stop i H ∧ D.nx σ H) ∨ ((Itl K l2).go i H ∧ ∃ N : L2.St → Hp → Prop, (∀ σ' H', N σ' H' → ∃ m', m' < m ∧ W (i + 1) m' σ' H') ∧ ∀ x H', (Itl K l2).yld i H x H' → g x σ H' fun σ2 H2 => tb { D with nx := N, ct := N, bk := D.nx } σ2 H2)) :
    tFor (iList K (tLst' t)) g tb D σ H :=
  e.at2 hl fun vs H1 s1 q1 => ⟨sz (by rw [q1.len]; exact ln), fun l2 H2 n2 s2 h2 => ⟨l2, rfl, ⟨_, SqL.of h2⟩, k l2 vs H2 (s1.trans s2) (s1.free n2) h2 (DxAll.same (hd2_same s2) q1)⟩⟩
theorem same_hd2k {p D : Addr} {H H' : Hp} (n : H D = none) (k : Kp p H H') : Same (hd p H) (hd2 p D H') := fun a o e => by
  have e1 := hd_kp k a o e
  have e2 := hd_in a o e
  show hd D (hd p H') a = some o
  rw [hd_ne (fun h => by rw [h, n] at e2; cases e2)]
  exact e1
def T3 : List PyData := [.bool true, .bool false, .bool true]
theorem gd_cut {r : Int} (hr : r = 1 ∨ r = 2) : gdD r = cutD T3 none (some (2 * r - 1)) := by rcases hr with rfl | rfl <;> rfl
theorem gd_len {r : Int} (hr : r = 1 ∨ r = 2) : 1 ≤ (gdD r).length ∧ (gdD r).length ≤ 3 := by rcases hr with rfl | rfl <;> decide
theorem gd_fl {r : Int} (hr : r = 1 ∨ r = 2) : ∀ d ∈ gdD r, flatD d = true := by
  rcases hr with rfl | rfl
  · exact al_cons (S := fun d => flatD d = true) rfl al_nil
  · exact al_cons (S := fun d => flatD d = true) rfl (al_cons (S := fun d => flatD d = true) rfl (al_cons (S := fun d => flatD d = true) rfl al_nil))
theorem gd_ok {r : Int} (hr : r = 1 ∨ r = 2) : chQ r (.tuple (gdD r)) = true := by rcases hr with rfl | rfl <;> rfl
def odD (r : Int) : List PyData := [.none, .tuple [], .tuple (gdD r ++ [.bool true]), .tuple (cutD (gdD r) (some 1) none), .list (gdD r), .str "T", .int 0, .bool true, .dict [], .tuple (List.replicate (((gdD r).length : Nat) : Int).toNat [PyData.int 1]).flatten, .tuple [.tuple (gdD r)]]
theorem od_ok {r : Int} (hr : r = 1 ∨ r = 2) : ∀ d ∈ odD r, ThX r d := by
  have l := gd_len hr
  have fl := gd_fl hr
  have af : ∀ d ∈ gdD r, AtB d := fun d hd => at_fl (fl d hd)
  have z : ∀ {d : PyData}, NrB d → chQ r d = false → ThX r d := fun h q => ⟨q, h⟩
  unfold odD
  refine al_cons (z (nb_flat rfl) ?_) (al_cons (z (nb_tup al_nil (by decide)) ?_) (al_cons (z (nb_tup (al_app af (al_cons (at_fl fl_bl) al_nil)) (by rw [List.length_append]; simp only [List.length_cons, List.length_nil]; omega)) ?_) (al_cons (z (nb_tup (al_cut af) (Nat.le_trans (cut_len _ _ _) (by omega))) ?_) (al_cons (z (nb_lst af (by omega)) ?_)
    (al_cons (z (nb_flat (by decide +kernel)) ?_) (al_cons (z (nb_flat (by decide +kernel)) ?_) (al_cons (z (nb_flat rfl) ?_) (al_cons (z nb_dic0 ?_) (al_cons (z (nb_tup (fun d hd => ?_) ?_) ?_) (al_cons (z (nb_tup (al_cons (at_tup fl (by omega)) al_nil) (show 1 ≤ 25 by decide)) ?_) al_nil))))))))))
  case refine_10 =>
    obtain ⟨y, hy, hd⟩ := List.mem_flatten.mp hd
    rw [(List.mem_replicate.mp hy).2] at hd
    rw [List.mem_singleton.mp hd]
    exact at_fl (by decide +kernel)
  case refine_11 => rcases hr with rfl | rfl <;> decide
  all_goals rcases hr with rfl | rfl <;> rfl
def th1 : List PyData := [.int 0, .int 1, .none, .str "", .str "True", .list [.bool true], .tuple [], .int (10 ^ (39 : Int).toNat)]
theorem th1_ok : ∀ d ∈ th1, boolQ d = false ∧ AtB d := by
  unfold th1
  repeat' first | exact al_nil (S := fun d => boolQ d = false ∧ AtB d) | refine al_cons (S := fun d => boolQ d = false ∧ AtB d) ?_ ?_
  all_goals first | exact ⟨rfl, at_fl (by decide +kernel)⟩ | exact ⟨rfl, at_lst (fun d hd => by rw [List.mem_singleton.mp hd]; rfl) (by decide)⟩ | exact ⟨rfl, at_tup (fun d hd => by cases hd) (by decide)⟩
theorem put_ok {r : Int} (hr : r = 1 ∨ r = 2) {dy : PyData} (h : boolQ dy = false ∧ AtB dy) (lo hi : Option Int) : ThX r (.tuple (cutD (gdD r) none lo ++ [dy] ++ cutD (gdD r) hi none)) := by
  have l := gd_len hr
  have fl := gd_fl hr
  have af : ∀ d ∈ gdD r, AtB d := fun d hd => at_fl (fl d hd)
  have l1 := cut_len (gdD r) none lo
  have l2 := cut_len (gdD r) hi none
  refine ⟨?_, nb_tup (al_app (al_app (al_cut af) (al_cons h.2 al_nil)) (al_cut af)) (by simp only [List.length_append, List.length_cons, List.length_nil]; omega)⟩
  have z := cut_none (ds := cutD (gdD r) none lo) (es := cutD (gdD r) hi none) h.1
  rcases hr with rfl | rfl
  · show (decide _ && _) = false
    rw [z, Bool.and_false]
  · show (decide _ && _) = false
    rw [z, Bool.and_false]
section
variable {P : Program} {w : World} {K : PySem.W.Frag} {mg : Str → Option Value} {base : Heap}
theorem ok_barriers_right {f : Addr} {fd : FuncData} (F : Fun K "_law_barriers_right" "_law_barriers_right" s_l_barriers_right f fd) (T : Txt mg) (t_repr : mg "repr" = none) (c_l_draw : Cal P w K mg base 2 "_law_draw" ["_law_pen_here", "_law_under"] sp_draw)
    (c_l_error : Cal P w K mg base 9 "_law_error" ["_law_road", "_law_olds", "_law_news", "_law_chosen"] (sp_error K)) : FnG P w K mg base 10 f fd ["_law_pen_here", "_law_olds", "_law_news"] sp_barR := by
  refine okG F sc_l_barriers_right (fun vs H Q E h => ?_) (fun cdv A outer s H vs Q E hr hg h => ?_)
  · obtain ⟨_, _, _, _, _, _, rfl, _⟩ := h
    rfl
  obtain ⟨q, m, a, b, os, ns, rfl, pn, hm, ha, hb, p, k⟩ := h
  refine ⟨_, (pss_cons (ps_for PassesOwn.never rfl (pi_list (pe_lst' (pa_cons pe_int (pa_cons pe_int (pa_cons pe_non (pa_cons pe_str (pa_cons pe_str (pa_cons (pe_lst' (pa_cons pe_bl pa_nil)) (pa_cons (pe_tup' (pa_cons pe_bl pa_nil)) (pa_cons (pe_tup' pa_nil) (pa_cons pe_dnewK (pa_cons (pe_op op_pow pe_int pe_int) pa_nil)))))))))))) (pg_name (i := 3) sc_l_barriers_right.nd rfl (Or.inl rfl))
      (pss_one (ps_if (pt_cmpR op_ne (pe_cal c_l_error hr (pa_cons pe_int (pa_cons (pv 1) (pa_cons (pv 2) (pa_cons (pv 3) pa_nil))))) pe_str (nomark _))
      (pss_one (ps_ret pe_bl))
      pss_nil)))
    (pss_cons (ps_if (pt_cmpR (op_neD hr.units) (pe_lc (own := [("_law_one", 7)]) (g := (gName 7)) (tt := tYes) rfl sc_l_barriers_right.nd (pi_tup (pe_tup' (pa_cons pe_bl (pa_cons pe_bl pa_nil)))) (blkOk_by (own := [("_law_one", 7)]) (N := N_l_barriers_right) (sc := defScope s_l_barriers_right) (by decide +kernel)) (fun _ _ _ _ _ => pg_name (i := 7) sc_l_barriers_right.nd rfl (Or.inl rfl)) (fun _ _ _ _ _ => pts_nil) (fun _ _ _ _ _ => (pe_cal c_l_error hr (pa_cons pe_int (pa_cons (pv 1) (pa_cons (pv 2) (pa_cons (pv 7) pa_nil))))))) (pe_lst' (pa_cons pe_str (pa_cons pe_str pa_nil))) (nomark _))
      (pss_one (ps_ret pe_bl))
      pss_nil)
    (pss_cons (ps_for PassesOwn.never rfl (pi_tup (pe_tup' (pa_cons pe_int (pa_cons pe_int pa_nil)))) (pg_name (i := 4) sc_l_barriers_right.nd rfl (Or.inl rfl))
      (pss_cons (ps_set (i := 5) sc_l_barriers_right.nd rfl (Or.inl rfl) (pe_slice sl_tup' (pe_tup' (pa_cons pe_bl (pa_cons pe_bl (pa_cons pe_bl pa_nil)))) po_none (po_some (pe_op op_sub (pe_op op_mul pe_int (pv 4)) pe_int))))
    (pss_cons (ps_set (i := 6) sc_l_barriers_right.nd rfl (Or.inl rfl) (pe_lst' (pa_cons pe_non (pa_cons (pe_tup' pa_nil) (pa_cons (pe_op op_catT' (pv 5) (pe_tup' (pa_cons pe_bl pa_nil))) (pa_cons (pe_slice sl_tup' (pv 5) (po_some pe_int) po_none) (pa_cons (pe_callTy call_list' (by rfl) T.list (by decide +kernel) (pa_cons (pv 5) pa_nil)) (pa_cons pe_str (pa_cons pe_int (pa_cons pe_bl (pa_cons pe_dnewK (pa_cons (pe_op op_repT' (pe_tup' (pa_cons pe_int pa_nil)) (pe_callB call_len' (by rfl) T.len (by decide +kernel) (pa_cons (pv 5) pa_nil))) (pa_cons (pe_tup' (pa_cons (pv 5) pa_nil)) pa_nil)))))))))))))
    (pss_cons (ps_for PassesOwn.never rfl (pi_list (pe_lst' (pa_cons pe_int (pa_cons pe_int (pa_cons pe_non (pa_cons pe_str (pa_cons pe_str (pa_cons (pe_lst' (pa_cons pe_bl pa_nil)) (pa_cons (pe_tup' pa_nil) (pa_cons (pe_op op_pow pe_int pe_int) pa_nil)))))))))) (pg_name (i := 7) sc_l_barriers_right.nd rfl (Or.inl rfl))
      (pss_cons (ps_set (i := 8) sc_l_barriers_right.nd rfl (Or.inl rfl) (pe_cal c_l_draw hr (pa_cons (pv 0) (pa_cons (pe_callB call_len' (by rfl) T.len (by decide +kernel) (pa_cons (pv 5) pa_nil)) pa_nil))))
    (pss_one (ps_expr (pe_bm PySem.F.plainAttrs_list PySem.F.slot_list_append PySem.F.type_list_append mt_append (pv 6) (pa_cons (pe_op op_catT' (pe_op op_catT' (pe_slice sl_tup' (pv 5) po_none (po_some (pv 8))) (pe_tup' (pa_cons (pv 7) pa_nil))) (pe_slice sl_tup' (pv 5) (po_some (pe_op op_add (pv 8) pe_int)) po_none)) pa_nil))))))
    (pss_cons (ps_for PassesOwn.never rfl (pi_list (pv 6)) (pg_name (i := 3) sc_l_barriers_right.nd rfl (Or.inl rfl))
      (pss_cons (ps_set (i := 9) sc_l_barriers_right.nd rfl (Or.inl rfl) (pe_callB (call_reprX hg hr.units) (by rfl) t_repr (by decide +kernel) (pa_cons (pv 3) pa_nil)))
    (pss_one (ps_if (PW.pt (pw_or (pt_cmpR op_ne (pe_cal c_l_error hr (pa_cons (pv 4) (pa_cons (pv 1) (pa_cons (pv 2) (pa_cons (pv 3) pa_nil))))) pe_str (nomark _)) (pw_or1 (pt_cmpR op_ne (pe_callB (call_reprX hg hr.units) (by rfl) t_repr (by decide +kernel) (pa_cons (pv 3) pa_nil)) (pv 9) (nomark _)))))
      (pss_one (ps_ret pe_bl))
      pss_nil))))
    (pss_one (ps_if (PW.pt (pw_or (pt_cmpR op_ne (pe_cal c_l_error hr (pa_cons (pv 4) (pa_cons (pv 1) (pa_cons (pv 2) (pa_cons (pv 5) pa_nil))))) pe_str (nomark _)) (pw_or1 (pt_cmpR op_ne (pe_cal c_l_error hr (pa_cons pe_int (pa_cons (pv 1) (pa_cons (pv 2) (pa_cons pe_non pa_nil))))) pe_str (nomark _)))))
      (pss_one (ps_ret pe_bl))
      pss_nil)))))))
    (pss_one (ps_ret pe_bl))))), ?_⟩
  have P0 : IsL q.p H := pn.lst
  have wk := wOk_ok p
  have p7 := p.l7
  have pl := p.l
  have wa : WdD (.tuple (dvs os)) := wd_ints (by omega)
  have wb : WdD (.tuple (dvs ns)) := wd_ints (by omega)
  have dxo : ∀ {G : Hp}, G a = some (.tup (ivs os)) → Dx K G (.ref a) (.tuple (dvs os)) := fun h => Dx.of (.tup h (dq_ints _))
  have dxn : ∀ {G : Hp}, G b = some (.tup (ivs ns)) → Dx K G (.ref b) (.tuple (dvs ns)) := fun h => Dx.of (.tup h (dq_ints _))
  show tFor (iList K (tLst' _)) _ _ _ _ _
  refine Evs.forL (K := K) (p := q.p) (H0 := H) (ds := th0) ?e (Same.refl _) (show 10 ≤ 100000 by decide) fun l xs H2 S2 n2 h2 t2 => ?_
  case e =>
    unfold th0
    repeat' first | exact evs_nil | apply evs_cons | exact ev_int | exact ev_non | exact ev_bl | exact ev_str | apply ev_tup P0 | apply ev_lst P0 | apply ev_pow | apply ev_neg | apply ev_dnew P0
    all_goals first | exact ⟨by decide, by decide, by decide⟩ | (simp only [List.length_cons, List.length_nil]; omega)
  refine for_list (K := K) (a := l) (xs := xs) (fun i σ' H' => ∃ v3, σ' = [some (.ref q.p), some (.ref a), some (.ref b), v3, none, none, none, none, none, none] ∧ Same H2 H') ?_ ?_ ?_ ?_
  · exact ⟨_, rfl, Same.refl _⟩
  · rintro i σ' H' _ ⟨_, _, s3⟩
    exact SqL.of (s3 _ _ h2)
  · rintro i y σ' H' hy ⟨v3, rfl, s3⟩
    obtain ⟨d, hd, hx⟩ := t2.at hy
    have th : ThX 3 d := th0_ok d (List.mem_of_getElem? hd)
    have S3 := S2.trans s3
    refine ⟨_, rfl, _, rfl, _, rfl, 3, .ref a, .ref b, y, _, _, d, rfl, dxo (S3 _ _ ha), dxn (S3 _ _ hb), Dx.same (Same.trans hd2_in s3) hx, wa, wb, th.s.w, fun H4 s4 => ?_⟩
    rw [errB wk (by decide) th.q]
    exact ⟨rfl, _, rfl, iteF' (by simp) ⟨_, rfl, s3.trans s4⟩⟩
  · rintro σ' H3 ⟨v3, rfl, s3⟩
    have S3 := S2.trans s3
    clear t2 h2 n2 S2 s3
    refine ⟨szr, fun tt I1 nt q1 htt => ⟨tt, rfl, ⟨_, SqT.of htt⟩, fun D nD => lc_tup (K := K) (a := tt) (xs := [.bl true, .bl false]) (fun i I => Same I1 I ∧ I D = some (.lst (List.replicate i (V.str "right")))) ?_ ?_ ?_ ?_⟩⟩
    · exact ⟨same_new nD, upd_same⟩
    · rintro i I _ ⟨s, _⟩
      exact SqT.of (s _ _ htt)
    · rintro i y I hy ⟨s, hD⟩
      have il : i < 2 := (List.getElem?_eq_some_iff.mp hy).1
      obtain ⟨zb, rfl⟩ : ∃ zb, y = .bl zb := by
        have := List.mem_of_getElem? hy
        simp only [List.mem_cons, List.not_mem_nil, or_false] at this
        rcases this with rfl | rfl
        · exact ⟨_, rfl⟩
        · exact ⟨_, rfl⟩
      have SI := S3.trans (q1.trans s)
      refine ⟨rfl, _, rfl, _, rfl, _, rfl, 3, .ref a, .ref b, .bl zb, _, _, .bool zb, rfl, dxo (SI _ _ ha), dxn (SI _ _ hb), .bl zb, wa, wb, wd_flat fl_bl, fun J s2 => ?_⟩
      rw [errR wk (.inr rfl)]
      refine ⟨_, s2 _ _ hD, szl (by rw [List.length_replicate]; omega), same_mut (s.trans s2) nD, ?_⟩
      rw [upd_same, List.replicate_succ']
    rintro I2 ⟨s, hD⟩
    have hD : I2 D = some (.lst [.str "right", .str "right"]) := hD
    have SI := S3.trans (q1.trans s)
    refine ⟨szr, fun rl I3 n3 q3 hrl => ?_⟩
    refine ⟨.list [.str "right", .str "right"], .list [.str "right", .str "right"], .lst (SqL.of (q3 _ _ hD)) (.cons (.str _) (.cons (.str _) .nil)), .lst (SqL.of hrl) (.cons (.str _) (.cons (.str _) .nil)), by decide +kernel, by decide +kernel, _, rfl, iteF' (by rfl) ?_⟩
    have SI3 := SI.trans q3
    refine ⟨szr, fun rt I4 n4 q4 hrt => ⟨rt, rfl, ⟨_, SqT.of hrt⟩, for_tup (K := K) (a := rt) (xs := [.int 1, .int 2]) (fun i σ' H' => ∃ v3 v4 v5 v6 v7 v8 v9, σ' = [some (.ref q.p), some (.ref a), some (.ref b), v3, v4, v5, v6, v7, v8, v9] ∧ Go q (m + 25 * i) I4 H') ?_ ?_ ?_ ?_⟩⟩
    · exact ⟨_, _, _, _, _, _, _, rfl, Go.refl (pn.same (SI3.trans q4))⟩
    · rintro i σ' H' _ ⟨_, _, _, _, _, _, _, _, g⟩
      exact SqT.of (g.kp.tup hrt)
    · rintro i y σ' H' hy ⟨v3, v4, v5, v6, v7, v8, v9, rfl, g⟩
      have il : i < 2 := (List.getElem?_eq_some_iff.mp hy).1
      obtain ⟨r, hr, rfl⟩ : ∃ r, (r = 1 ∨ r = 2) ∧ y = .int r := by
        have := List.mem_of_getElem? hy
        simp only [List.mem_cons, List.not_mem_nil, or_false] at this
        rcases this with rfl | rfl
        · exact ⟨1, .inl rfl, rfl⟩
        · exact ⟨2, .inr rfl, rfl⟩
      have SH4 := SI3.trans q4
      have haH := g.kp.tup (SH4 _ _ ha)
      have hbH := g.kp.tup (SH4 _ _ hb)
      have pnH := g.pen
      have P5 : IsL q.p H' := pnH.lst
      show tAsg _ _ _ _ _
      refine Ev.asg (K := K) (p := q.p) (H0 := H') (d := .tuple (gdD r)) ?e (Same.refl _) fun gv J1 u1 x1 => ?_
      case e =>
        rw [gd_cut hr]
        refine ev_slT P5 (ev_tup P5 (evs_cons ev_bl (evs_cons ev_bl (evs_cons ev_bl evs_nil))) (by decide)) evo_none (evo_some (K := K) (p := q.p) (ev_sub (ev_mul ev_int (ev_var rfl (.int r)) ?_) ev_int))
        left
        decide
      obtain ⟨ga, gs, rfl, hgs, tg⟩ := dx_tupH x1
      have P6 : IsL q.p J1 := P5.same u1
      dsimp only [gName]
      show tAsg (tLst' _) _ _ _ _
      refine Evs.asgL (K := K) (p := q.p) (H0 := J1) (ds := odD r) ?e2 (Same.refl _) (show 11 ≤ 100000 by decide) fun l xs J2 u2 nl hl tl => ?_
      case e2 =>
        unfold odD
        have lg := gd_len hr
        repeat' first | exact evs_nil | apply evs_cons | exact ev_int | exact ev_non | exact ev_bl | exact ev_str | exact ev_var rfl x1 | apply ev_tup P6 | apply ev_lst P6 | apply ev_catT P6 | apply ev_slT P6 | exact evo_none | apply evo_some (K := K) (p := q.p) | apply ev_lstT P6 | apply ev_repT P6 | exact ev_lenT (ev_var rfl x1) | apply ev_dnew P6
        all_goals first | (simp only [List.length_cons, List.length_nil]; omega) | omega | simp
      have U2 := u1.trans u2
      have lp : l ≠ q.p := P6.ne nl
      have ags : gs.length = (gdD r).length := tg.len
      have lg := gd_len hr
      have hl2 : hd q.p J1 l = none := by rw [hd_ne lp]; exact nl
      obtain ⟨zp, hzp⟩ := P6.same u2
      have P7 : IsL q.p (hd l J2) := ⟨zp, by rw [hd_ne lp.symm]; exact hzp⟩
      have hgJ : J1 ga = some (.tup gs) := hd_in _ _ hgs
      have gl : ga ≠ l := fun e => by rw [e, nl] at hgJ; cases hgJ
      have pnJ : Pen q (m + 25 * i) J1 := pnH.same u1
      dsimp only [gName]
      show tFor (iList K (tLst' _)) _ _ _ _ _
      refine Evs.forL2 (K := K) (p := q.p) (l := l) (ds := th1) ?e3 hl (show 8 ≤ 100000 by decide) fun l2 ys J3 u3 nl2 hl2' t3 => ?_
      case e3 =>
        unfold th1
        repeat' first | exact evs_nil | apply evs_cons | exact ev_int | exact ev_non | exact ev_bl | exact ev_str | apply ev_tup P7 | apply ev_lst P7 | apply ev_pow
        all_goals first | exact ⟨by decide, by decide, by decide⟩ | (simp only [List.length_cons, List.length_nil]; omega)
      have l2l : l2 ≠ l := ne_of_none' hl nl2
      have l2p : l2 ≠ q.p := (P6.same u2).ne nl2
      refine for_list (K := K) (a := l2) (xs := ys) (fun j σ' H' => ∃ v7 v8, σ' = [some (.ref q.p), some (.ref a), some (.ref b), v3, some (.int r), some (.ref ga), some (.ref l), v7, v8, v9] ∧ Go q (m + 25 * i + j) J1 H' ∧ H' l2 = some (.lst ys) ∧ DxAll K (hd2 q.p l H') ys th1 ∧ LnX K q.p H' l (ThX r) (11 + j)) ?_ ?_ ?_ ?_
      · exact ⟨_, _, rfl, Go.of pnJ (u2.trans u3), hl2', t3, xs, odD r, u3 _ _ hl, DxAll.same (hd2_same u3) tl, od_ok hr, Nat.le_refl _⟩
      · rintro j σ' G _ ⟨_, _, _, _, h, _⟩
        exact SqL.of h
      · rintro j y σ' G hy ⟨v7, v8, rfl, gG, hl2G, t3G, xs', ds', hlG, tG, okG, lnG⟩
        obtain ⟨dy, hdy, hox⟩ := t3G.at hy
        have j8 : j < 8 := by
          have := t3G.len
          have h8 : th1.length = 8 := rfl
          rw [← h8, ← this]
          exact (List.getElem?_eq_some_iff.mp hy).1
        have hgG : G ga = some (.tup gs) := gG.kp.tup hgJ
        refine ⟨_, rfl, _, rfl, ga, _, rfl, .inr hgG, q, _, _, rfl, by omega, by omega, gG.pen, by omega, fun spot G2 d0 d1 g2 => ?_⟩
        have hlG2 := g2.kp.lst lp hlG
        refine ⟨_, rfl, .inl ⟨rfl, _, SqL.of hlG2⟩, ?_⟩
        have PG : IsL q.p (hd l G2) := by
          obtain ⟨z, hz⟩ := g2.pen.lst
          exact ⟨z, by rw [hd_ne lp.symm]; exact hz⟩
        have gG2 : Go q (m + 25 * i + j + 1) J1 G2 := gG.trans g2
        have xg : Dx K (hd q.p (hd l G2)) (.ref ga) (.tuple (gdD r)) := by
          rw [← hd_comm]
          exact Dx.same (same_hd2k nl gG2.kp) (.tup hgs tg)
        have xy : Dx K (hd q.p (hd l G2)) y dy := by
          rw [← hd_comm]
          exact Dx.same (hd2_kp g2.kp) hox
        refine Evs.at2 (K := K) (p := q.p) (l := l) (ds := [.tuple (cutD (gdD r) none (some spot) ++ [dy] ++ cutD (gdD r) (some (spot + 1)) none)]) ?e4 hlG2 fun vs G3 u4 tv => ?_
        case e4 =>
          refine evs_cons ?_ evs_nil
          refine ev_catT PG (ev_catT PG (ev_slT PG (ev_var rfl xg) evo_none (evo_some (K := K) (p := q.p) (ev_var rfl (.int spot)))) (ev_tup PG (evs_cons (ev_var rfl xy) evs_nil) (show 1 ≤ 100000 by decide)) ?_) (ev_slT PG (ev_var rfl xg) (evo_some (K := K) (p := q.p) (ev_add (ev_var rfl (.int spot)) ev_int)) evo_none) ?_
          · have := cut_len (gdD r) none (some spot)
            show _ + 1 ≤ 100000
            omega
          · have := cut_len (gdD r) none (some spot)
            have := cut_len (gdD r) (some (spot + 1)) none
            rw [List.length_append]
            show _ + 1 + _ ≤ 100000
            omega
        obtain ⟨v, rfl, xv⟩ : ∃ v, vs = [v] ∧ Dx K (hd2 q.p l G3) v (.tuple (cutD (gdD r) none (some spot) ++ [dy] ++ cutD (gdD r) (some (spot + 1)) none)) := by
          cases tv with
          | cons h t =>
            cases t
            exact ⟨_, rfl, h⟩
        have hlG3 := u4 _ _ hlG2
        have xl : xs'.length < 100000 := by rw [tG.len]; omega
        refine ⟨l, _, v, rfl, rfl, hlG3, szl xl, _, _, rfl, (Go.mut pnJ nl (gG2.same u4)).mono (by omega), ?_, ?_, xs' ++ [v], ds' ++ [_], upd_same, ?_, al_app okG (al_cons (put_ok hr (th1_ok dy (List.mem_of_getElem? hdy)) (some spot) (some (spot + 1))) al_nil), by rw [List.length_append]; simp only [List.length_cons, List.length_nil]; omega⟩
        · rw [upd_ne l2l]
          exact u4 _ _ (g2.kp.lst l2p hl2G)
        · rw [hd2_upd]
          exact DxAll.same (hd2_same u4) (DxAll.same (hd2_kp g2.kp) t3G)
        · rw [hd2_upd]
          exact DxAll.app (DxAll.same (hd2_same u4) (DxAll.same (hd2_kp g2.kp) tG)) (.cons xv .nil)
      rintro σ' G ⟨v7, v8, rfl, gG, _, _, xs', ds', hlG, tG, okG, lnG⟩
      have y8 : ys.length = 8 := t3.len
      rw [y8] at gG
      have gH : Go q (m + 25 * i + 8) I4 G := (g.trans ((Go.of pnH u1).trans gG))
      have haG := gH.kp.tup (SH4 _ _ ha)
      have hbG := gH.kp.tup (SH4 _ _ hb)
      have hgG : G ga = some (.tup gs) := gG.kp.tup hgJ
      have xgG : Dx K G (.ref ga) (.tuple (gdD r)) := Dx.same hd_in (Dx.same (hd_kp gG.kp) x1)
      have wg : WdD (.tuple (gdD r)) := wd_tup (by omega)
      refine ⟨_, rfl, l, rfl, ⟨_, SqL.of hlG⟩, for_list (K := K) (a := l) (xs := xs') (fun j σ' H' => ∃ v3 v9, σ' = [some (.ref q.p), some (.ref a), some (.ref b), v3, some (.int r), some (.ref ga), some (.ref l), v7, v8, v9] ∧ Same G H') ?_ ?_ ?_ ?_⟩
      · exact ⟨_, _, rfl, Same.refl _⟩
      · rintro j σ' H' _ ⟨_, _, _, s⟩
        exact SqL.of (s _ _ hlG)
      · rintro j y σ' H' hy ⟨v3, v9, rfl, s⟩
        obtain ⟨d, hd, hx⟩ := tG.at hy
        have th := okG d (List.mem_of_getElem? hd)
        have hxH : Dx K H' y d := Dx.same (Same.trans hd2_in s) hx
        have sh := th.s.b.sh
        have dp : d.depth ≤ 60 := Nat.le_trans th.s.b.dp (by decide)
        have tx : d.shown.length ≤ sizeLine := Nat.le_trans th.s.b.tx (by decide)
        refine ⟨_, rfl, _, _, rfl, hxH, sh, dp, tx, ?_⟩
        refine ⟨_, rfl, _, rfl, _, rfl, _, rfl, r, .ref a, .ref b, y, _, _, d, rfl, dxo (s _ _ haG), dxn (s _ _ hbG), hxH, wa, wb, th.s.w, fun H4 s4 => ?_⟩
        rw [errB wk (by omega) th.q]
        refine ⟨rfl, _, rfl, iteF' (by simp) ⟨_, rfl, _, _, rfl, Dx.same s4 hxH, sh, dp, tx, _, rfl, rfl, _, rfl, iteF' (by simp) ⟨_, _, rfl, s.trans s4⟩⟩⟩
      · rintro σ' H' ⟨v3, v9, rfl, s⟩
        refine ⟨_, rfl, _, rfl, _, rfl, _, rfl, r, .ref a, .ref b, .ref ga, _, _, _, rfl, dxo (s _ _ haG), dxn (s _ _ hbG), Dx.same s xgG, wa, wb, wg, fun H4 s4 => ?_⟩
        rw [errR wk (.inr (gd_ok hr))]
        have s5 := s.trans s4
        refine ⟨rfl, _, rfl, iteF' (by simp) ⟨_, rfl, _, rfl, 0, .ref a, .ref b, .non, _, _, .none, rfl, dxo (s5 _ _ haG), dxn (s5 _ _ hbG), .non, wa, wb, wd_flat rfl, fun H6 s6 => ?_⟩⟩
        rw [errR wk (.inl rfl)]
        exact ⟨rfl, _, rfl, iteF' (by simp) ⟨_, _, _, _, _, _, _, rfl, (gH.same (s5.trans s6)).mono (by omega)⟩⟩
    · rintro σ' H' ⟨_, _, _, _, _, _, _, rfl, g⟩
      exact k H' (((Go.of pn (SI3.trans q4)).trans g).mono (by simp only [List.length_cons, List.length_nil]; omega))
end
end Af

set_option Elab.async false
set_option linter.all false
set_option maxRecDepth 100000
set_option maxHeartbeats 16000000
namespace Af
open PySem L2
abbrev s_l_odd : Stmt := top 41
abbrev N_l_odd : List Str := []
theorem sc_l_odd : FnScope N_l_odd [] (defScope s_l_odd) := ⟨rfl, rfl, rfl, by decide +kernel, rfl, by decide +kernel, by decide +kernel⟩

abbrev s_law : Stmt := top 45
abbrev N_law : List Str := ["_law_script", "_law_pen_here", "_law_turn", "_law_olds", "_law_news", "_law_bad", "_law_one", "_law_spot", "_law_thing", "_law_other", "_law_seen", "_law_road"]
theorem sc_law : FnScope N_law ["_law_script"] (defScope s_law) := ⟨rfl, rfl, rfl, by decide +kernel, rfl, by decide +kernel, by decide +kernel⟩

def oddD : List PyData := [.int (-1), .int 8, .bool true, .bool false, .none, .str "1", .str "", .list [.int 1], .tuple [.int 1], .dict [], .int (10 ^ (39 : Int).toNat), .int 25, .list [.list [.int 0]]]
theorem at_nest : AtB (.list [.list [.int 0]]) := by
  have h : Bd 100 2 (.list [.int 0]) := Bd.mono (Bd.lst (b := 45) (n := 1) (k := 1) (fun d hd => by rw [List.mem_singleton.mp hd]; exact Bd.flat (by decide +kernel)) (Nat.le_refl 1)) (by decide) (by decide)
  exact Bd.mono (Bd.lst (b := 100) (n := 2) (k := 1) (fun d hd => by rw [List.mem_singleton.mp hd]; exact h) (Nat.le_refl 1)) (by decide) (by decide)
theorem odd_ok : ∀ d ∈ oddD, idxD 8 d = false ∧ AtB d := by
  unfold oddD
  repeat' first | exact al_nil (S := fun d => idxD 8 d = false ∧ AtB d) | refine al_cons (S := fun d => idxD 8 d = false ∧ AtB d) ?_ ?_
  all_goals first | exact ⟨rfl, at_fl (by decide +kernel)⟩ | exact ⟨rfl, bd_dic0.mono (by decide) (by decide)⟩ | exact ⟨rfl, at_lst (fun d hd => by rw [List.mem_singleton.mp hd]; decide +kernel) (by decide)⟩ | exact ⟨rfl, at_tup (fun d hd => by rw [List.mem_singleton.mp hd]; decide +kernel) (by decide)⟩ | exact ⟨rfl, at_nest⟩
/-- no worths beside such ones of k cells -/
structure WrX (k : Nat) (d : PyData) : Prop where
  q : worthsD d = false ∨ lenD d ≠ k
  s : NrB d
theorem WrX.no1 {k : Nat} {d e : PyData} (h : WrX k d) (l : lenD e = k) : wOk d e = false := by
  unfold wOk
  rcases h.q with q | q
  · rw [q]; rfl
  · rw [decide_eq_false (show ¬ lenD d = lenD e by rw [l]; exact q), Bool.and_false]; rfl
theorem WrX.no2 {k : Nat} {d e : PyData} (h : WrX k d) (l : lenD e = k) : wOk e d = false := by
  unfold wOk
  rcases h.q with q | q
  · rw [q, Bool.and_false]; rfl
  · rw [decide_eq_false (show ¬ lenD e = lenD d by rw [l]; exact fun z => q z.symm), Bool.and_false]; rfl
def bdD (od : List PyData) : List PyData := [.none, .tuple [], .list od, .str "0", .int 0, .bool true, .dict [], .tuple (od ++ [.int 0]), .tuple (cutD od (some 1) none), .tuple (List.replicate (8 : Int).toNat [PyData.int 0]).flatten, .tuple [.tuple od], .int (10 ^ (39 : Int).toNat)]
theorem cut1_len (x : PyData) (rs : List PyData) : (cutD (x :: rs) (some 1) none).length = rs.length := by
  unfold cutD
  have e1 : HT.sIx (x :: rs).length (x :: rs).length none = (x :: rs).length := rfl
  have e2 : HT.sIx (x :: rs).length 0 (some 1) = 1 := by
    show min 1 (rs.length + 1) = 1
    omega
  rw [e1, e2]
  show (rs.take (rs.length + 1 - 1)).length = _
  rw [Nat.add_sub_cancel, List.take_length]
theorem bd_ok {od : List PyData} (l1 : 1 ≤ od.length) (l7 : od.length ≤ 7) (fl : ∀ d ∈ od, flatD d = true) : ∀ d ∈ bdD od, WrX od.length d := by
  have af : ∀ d ∈ od, AtB d := fun d hd => at_fl (fl d hd)
  unfold bdD
  refine al_cons ⟨.inl rfl, nb_flat rfl⟩ (al_cons ⟨.inl rfl, nb_tup al_nil (by decide)⟩ (al_cons ⟨.inl rfl, nb_lst af (by omega)⟩ (al_cons ⟨.inl rfl, nb_flat (by decide +kernel)⟩ (al_cons ⟨.inl rfl, nb_flat (by decide +kernel)⟩ (al_cons ⟨.inl rfl, nb_flat rfl⟩ (al_cons ⟨.inl rfl, nb_dic0⟩ (al_cons ⟨.inr ?_, nb_tup (al_app af (al_cons (at_fl (by decide +kernel)) al_nil)) ?_⟩
    (al_cons ⟨.inr ?_, nb_tup (al_cut af) (Nat.le_trans (cut_len _ _ _) (by omega))⟩ (al_cons ⟨.inr ?_, nb_tup (fun d hd => ?_) (by decide)⟩ (al_cons ⟨.inl rfl, nb_tup (al_cons (at_tup fl (by omega)) al_nil) (show 1 ≤ 25 by decide)⟩ (al_cons ⟨.inl rfl, nb_flat (by decide +kernel)⟩ al_nil)))))))))))
  · show (od ++ [PyData.int 0]).length ≠ od.length
    rw [List.length_append]
    simp
  · rw [List.length_append]
    show od.length + 1 ≤ 25
    omega
  · show (cutD od (some 1) none).length ≠ od.length
    cases od with
    | nil => exact absurd l1 (by decide)
    | cons x rs =>
      rw [cut1_len, List.length_cons]
      omega
  · show (8 : Nat) ≠ od.length
    omega
  · obtain ⟨y, hy, hd⟩ := List.mem_flatten.mp hd
    rw [(List.mem_replicate.mp hy).2] at hd
    rw [List.mem_singleton.mp hd]
    exact at_fl (by decide +kernel)
theorem putW_ok {od : List PyData} (l7 : od.length ≤ 7) (fl : ∀ d ∈ od, flatD d = true) {dy : PyData} (h : idxD 8 dy = false ∧ AtB dy) (lo hi : Option Int) : WrX od.length (.tuple (cutD od none lo ++ [dy] ++ cutD od hi none)) := by
  have af : ∀ d ∈ od, AtB d := fun d hd => at_fl (fl d hd)
  have l1 := cut_len od none lo
  have l2 := cut_len od hi none
  refine ⟨.inl ?_, nb_tup (al_app (al_app (al_cut af) (al_cons h.2 al_nil)) (al_cut af)) (by simp only [List.length_append, List.length_cons, List.length_nil]; omega)⟩
  show (_ && (cutD od none lo ++ [dy] ++ cutD od hi none).all (idxD 8)) = false
  rw [List.all_append, List.all_append]
  show (_ && (_ && (idxD 8 dy && true) && _)) = false
  rw [h.1]
  simp
def sp_odd (K : PySem.W.Frag) : Sp := fun vs H Q _ => ∃ (p l : Addr) (zs : List V), vs = [] ∧ IsL p (hd l H) ∧ H l = some (.lst zs) ∧ ∀ l2 xs H', Same H H' → H l2 = none → H' l2 = some (.lst xs) → DxAll K (hd2 p l H') xs oddD → Q (.ref l2) H'
def sp_law (K : PySem.W.Frag) : Sp := fun vs H Q _ => ∃ (a : Addr) (ns : List Int), vs = [.ref a] ∧ SqL K H a (ns.map V.int) ∧ ∀ H', Q (.bl true) H'
section
variable {P : Program} {w : World} {K : PySem.W.Frag} {mg : Str → Option Value} {base : Heap}
theorem ok_odd {f : Addr} {fd : FuncData} (F : Fun K "_law_odd" "_law_odd" s_l_odd f fd) (T : Txt mg) : FnOk P w K mg base CX0 1 f fd [] (sp_odd K) := by
  refine F.ok sc_l_odd (fun vs H Q E h => ?_) (fun cdv A outer s H vs Q E hr h => ?_)
  · obtain ⟨_, _, _, rfl, _⟩ := h
    rfl
  obtain ⟨p, l, zs, rfl, P0, hl, k⟩ := h
  refine ⟨_, (pss_one (ps_ret (pe_lst' (pa_cons (pe_un un_neg pe_int) (pa_cons pe_int (pa_cons pe_bl (pa_cons pe_bl (pa_cons pe_non (pa_cons pe_str (pa_cons pe_str (pa_cons (pe_lst' (pa_cons pe_int pa_nil)) (pa_cons (pe_tup' (pa_cons pe_int pa_nil)) (pa_cons pe_dnewK (pa_cons (pe_op op_pow pe_int pe_int) (pa_cons pe_int (pa_cons (pe_lst' (pa_cons (pe_lst' (pa_cons pe_int pa_nil)) pa_nil)) pa_nil)))))))))))))))), ?_⟩
  dsimp only [tRet, tLst']
  refine Evs.at2 (K := K) (p := p) (l := l) (ds := oddD) ?e hl fun vs H1 s1 q1 => ?_
  case e =>
    unfold oddD
    repeat' first | exact evs_nil | apply evs_cons | exact ev_int | exact ev_non | exact ev_bl | exact ev_str | apply ev_tup P0 | apply ev_lst P0 | apply ev_pow | apply ev_neg | apply ev_dnew P0
    all_goals first | exact ⟨by decide, by decide, by decide⟩ | (simp only [List.length_cons, List.length_nil]; omega)
  exact ⟨sz (by rw [q1.len]; exact (show 13 ≤ 100000 by decide)), fun l2 H2 n s2 h2 => k l2 vs H2 (s1.trans s2) (s1.free n) h2 (DxAll.same (hd2_same s2) q1)⟩
theorem ok_law {f : Addr} {fd : FuncData} (F : Fun K "law" "law" s_law f fd) (T : Txt mg) (t_repr : mg "repr" = none) (c_l_pen : Cal P w K mg base 1 "_law_pen" ["_law_script"] (sp_pen K)) (c_l_draw : Cal P w K mg base 2 "_law_draw" ["_law_pen_here", "_law_under"] sp_draw)
    (c_l_pair : Cal P w K mg base 3 "_law_pair" ["_law_pen_here", "_law_most"] sp_pair) (c_l_odd : Cal P w K mg base 1 "_law_odd" [] (sp_odd K)) (c_l_error : Cal P w K mg base 9 "_law_error" ["_law_road", "_law_olds", "_law_news", "_law_chosen"] (sp_error K))
    (c_l_barriers_right : CalG P w K mg base 10 "_law_barriers_right" ["_law_pen_here", "_law_olds", "_law_news"] sp_barR) : FnG P w K mg base 11 f fd ["_law_script"] (sp_law K) := by
  refine okG F sc_law (fun vs H Q E h => ?_) (fun cdv A outer s H vs Q E hr hg h => ?_)
  · obtain ⟨_, _, rfl, _⟩ := h
    rfl
  obtain ⟨a, ns, rfl, ha, k⟩ := h
  refine ⟨_, (pss_cons (ps_set (i := 1) sc_law.nd rfl (Or.inl rfl) (pe_cal c_l_pen hr (pa_cons (pv 0) pa_nil)))
    (pss_cons (ps_for PassesOwn.never rfl (pi_range1 rfl T.range (pa_cons pe_int pa_nil)) (pg_name (i := 2) sc_law.nd rfl (Or.inl rfl))
      (pss_cons (ps_asg (pe_cal c_l_pair hr (pa_cons (pv 1) (pa_cons pe_int pa_nil))) (pg_tup rfl (pgs_cons (pg_name (i := 3) sc_law.nd rfl (Or.inl rfl)) (pgs_cons (pg_name (i := 4) sc_law.nd rfl (Or.inl rfl)) pgs_nil))))
    (pss_cons (ps_set (i := 5) sc_law.nd rfl (Or.inl rfl) (pe_lst' (pa_cons pe_non (pa_cons (pe_tup' pa_nil) (pa_cons (pe_callTy call_list' (by rfl) T.list (by decide +kernel) (pa_cons (pv 3) pa_nil)) (pa_cons pe_str (pa_cons pe_int (pa_cons pe_bl (pa_cons pe_dnewK (pa_cons (pe_op op_catT' (pv 3) (pe_tup' (pa_cons pe_int pa_nil))) (pa_cons (pe_slice sl_tup' (pv 3) (po_some pe_int) po_none) (pa_cons (pe_op op_repT' (pe_tup' (pa_cons pe_int pa_nil)) pe_int) (pa_cons (pe_tup' (pa_cons (pv 3) pa_nil)) (pa_cons (pe_op op_pow pe_int pe_int) pa_nil))))))))))))))
    (pss_cons (ps_for PassesOwn.never rfl (pi_list (pe_cal0 c_l_odd hr)) (pg_name (i := 6) sc_law.nd rfl (Or.inl rfl))
      (pss_cons (ps_set (i := 7) sc_law.nd rfl (Or.inl rfl) (pe_cal c_l_draw hr (pa_cons (pv 1) (pa_cons (pe_callB call_len' (by rfl) T.len (by decide +kernel) (pa_cons (pv 3) pa_nil)) pa_nil))))
    (pss_one (ps_expr (pe_bm PySem.F.plainAttrs_list PySem.F.slot_list_append PySem.F.type_list_append mt_append (pv 5) (pa_cons (pe_op op_catT' (pe_op op_catT' (pe_slice sl_tup' (pv 3) po_none (po_some (pv 7))) (pe_tup' (pa_cons (pv 6) pa_nil))) (pe_slice sl_tup' (pv 3) (po_some (pe_op op_add (pv 7) pe_int)) po_none)) pa_nil))))))
    (pss_cons (ps_for PassesOwn.never rfl (pi_list (pv 5)) (pg_name (i := 8) sc_law.nd rfl (Or.inl rfl))
      (pss_cons (ps_set (i := 9) sc_law.nd rfl (Or.inl rfl) (pe_ix ix_seq' (pe_lst' (pa_cons pe_non (pa_cons (pe_tup' (pa_cons pe_bl pa_nil)) (pa_cons (pe_tup' (pa_cons pe_bl (pa_cons pe_int (pa_cons pe_int pa_nil)))) (pa_cons (pe_tup' pa_nil) pa_nil))))) (pe_cal c_l_draw hr (pa_cons (pv 1) (pa_cons pe_int pa_nil))) (fun _ _ => rfl)))
    (pss_cons (ps_set (i := 10) sc_law.nd rfl (Or.inl rfl) (pe_callB (call_reprX hg hr.units) (by rfl) t_repr (by decide +kernel) (pa_cons (pv 8) pa_nil)))
    (pss_cons (ps_for PassesOwn.never rfl (pi_range1 rfl T.range (pa_cons pe_int pa_nil)) (pg_name (i := 11) sc_law.nd rfl (Or.inl rfl))
      (pss_cons (ps_if (pt_cmpR op_ne (pe_cal c_l_error hr (pa_cons (pv 11) (pa_cons (pv 8) (pa_cons (pv 4) (pa_cons (pv 9) pa_nil))))) pe_str (nomark _))
      (pss_one (ps_ret pe_bl))
      pss_nil)
    (pss_one (ps_if (pt_cmpR op_ne (pe_cal c_l_error hr (pa_cons (pv 11) (pa_cons (pv 3) (pa_cons (pv 8) (pa_cons (pv 9) pa_nil))))) pe_str (nomark _))
      (pss_one (ps_ret pe_bl))
      pss_nil))))
    (pss_one (ps_if (pt_cmpR op_ne (pe_callB (call_reprX hg hr.units) (by rfl) t_repr (by decide +kernel) (pa_cons (pv 8) pa_nil)) (pv 10) (nomark _))
      (pss_one (ps_ret pe_bl))
      pss_nil))))))
    (pss_cons (ps_if (pt_cmpR op_ne (pe_cal c_l_error hr (pa_cons pe_int (pa_cons (pe_op op_repT' (pe_tup' (pa_cons pe_int pa_nil)) pe_int) (pa_cons (pe_op op_repT' (pe_tup' (pa_cons pe_int pa_nil)) pe_int) (pa_cons pe_non pa_nil))))) pe_str (nomark _))
      (pss_one (ps_ret pe_bl))
      pss_nil)
    (pss_one (ps_if (pt_not (pt_val (pe_calG c_l_barriers_right hr hg (pa_cons (pv 1) (pa_cons (pv 3) (pa_cons (pv 4) pa_nil))))))
      (pss_one (ps_ret pe_bl))
      pss_nil))))))))
    (pss_one (ps_ret pe_bl)))), ?_⟩
  refine ⟨_, rfl, a, ns, rfl, ha, fun q H1 s1 nqp nqc pn1 => ⟨4, rfl, by decide, by decide, for_range (n := 4) (lo := 0) (fun i σ' H' => ∃ v2 v3 v4 v5 v6 v7 v8 v9 v10 v11, σ' = [some (.ref a), some (.ref q.p), v2, v3, v4, v5, v6, v7, v8, v9, v10, v11] ∧ Pen q (200 * i) H') ?_ ?_ ?_⟩⟩
  · exact ⟨_, _, _, _, _, _, _, _, _, _, rfl, pn1⟩
  · rintro i σ' H2 hi ⟨v2, v3, v4, v5, v6, v7, v8, v9, v10, v11, rfl, pn2⟩
    clear ha s1
    refine ⟨_, rfl, q, _, rfl, pn2, by omega, fun t oa na os ns2 H3 g3 ht ho hn p => ⟨t, _, rfl, SqT.of ht, rfl, _, _, rfl, _, _, rfl, rfl, ?_⟩⟩
    have pn3 := g3.pen
    have P3 : IsL q.p H3 := pn3.lst
    have p7 := p.l7
    have p1 := p.l1
    have lod : (dvs os).length = os.length := by unfold dvs; rw [List.length_map]
    have lnd : lenD (.tuple (dvs ns2)) = os.length := by
      show (dvs ns2).length = _
      unfold dvs
      rw [List.length_map, p.l]
    have lod2 : lenD (.tuple (dvs os)) = os.length := lod
    have fl : ∀ d ∈ dvs os, flatD d = true := fun d hd => by
      obtain ⟨z, hz, rfl⟩ := dvs_mem hd
      exact flat_small (p.ob z hz)
    have ops : oa ≠ q.p := P3.nt ho
    have xo : Dx K (hd q.p H3) (.ref oa) (.tuple (dvs os)) := Dx.of (.tup ((hd_ne ops).trans ho) (dq_ints _))
    have wa : WdD (.tuple (dvs os)) := wd_ints (by omega)
    have wb : WdD (.tuple (dvs ns2)) := wd_ints (by have := p.l; omega)
    have dxo : ∀ {G : Hp}, G oa = some (.tup (ivs os)) → Dx K G (.ref oa) (.tuple (dvs os)) := fun h => Dx.of (.tup h (dq_ints _))
    have dxn : ∀ {G : Hp}, G na = some (.tup (ivs ns2)) → Dx K G (.ref na) (.tuple (dvs ns2)) := fun h => Dx.of (.tup h (dq_ints _))
    dsimp only
    show tAsg (tLst' _) _ _ _ _
    refine Evs.asgL (K := K) (p := q.p) (H0 := H3) (ds := bdD (dvs os)) ?e (Same.refl _) (show 12 ≤ 100000 by decide) fun l xs J2 u2 nl hl tl => ?_
    case e =>
      unfold bdD
      repeat' first | exact evs_nil | apply evs_cons | exact ev_int | exact ev_non | exact ev_bl | exact ev_str | exact ev_var rfl xo | apply ev_tup P3 | apply ev_lst P3 | apply ev_catT P3 | apply ev_slT P3 | exact evo_none | apply evo_some (K := K) (p := q.p) | apply ev_lstT P3 | apply ev_repT P3 | apply ev_pow | apply ev_dnew P3
      all_goals first | exact ⟨by decide, by decide, by decide⟩ | (simp only [List.length_cons, List.length_nil]; omega) | omega | simp
    have okB := bd_ok (od := dvs os) (by omega) (by omega) fl
    rw [lod] at okB
    have lp : l ≠ q.p := P3.ne nl
    obtain ⟨zp, hzp⟩ := P3.same u2
    have P7 : IsL q.p (hd l J2) := ⟨zp, by rw [hd_ne lp.symm]; exact hzp⟩
    refine ⟨q.p, l, xs, rfl, P7, hl, fun l2 ys J3 u3 nl2 hl2' t3 => ⟨l2, rfl, ⟨_, SqL.of hl2'⟩, ?_⟩⟩
    have l2l : l2 ≠ l := ne_of_none' hl nl2
    have l2p : l2 ≠ q.p := (P3.same u2).ne nl2
    refine for_list (K := K) (a := l2) (xs := ys) (fun j σ' H' => ∃ v6 v7, σ' = [some (.ref a), some (.ref q.p), some (.int (0 + (i : Int))), some (.ref oa), some (.ref na), some (.ref l), v6, v7, v8, v9, v10, v11] ∧ Go q (200 * i + 30 + j) H3 H' ∧ H' l2 = some (.lst ys) ∧ DxAll K (hd2 q.p l H') ys oddD ∧ LnX K q.p H' l (WrX os.length) (12 + j)) ?_ ?_ ?_ ?_
    · exact ⟨_, _, rfl, (Go.of pn3 (u2.trans u3)).mono (by omega), hl2', t3, xs, _, u3 _ _ hl, DxAll.same (hd2_same u3) tl, okB, Nat.le_refl _⟩
    · rintro j σ' G _ ⟨_, _, _, _, h, _⟩
      exact SqL.of h
    · rintro j y σ' G hy ⟨v6, v7, rfl, gG, hl2G, t3G, xs', ds', hlG, tG, okG, lnG⟩
      obtain ⟨dy, hdy, hox⟩ := t3G.at hy
      have j13 : j < 13 := by
        have := t3G.len
        have h13 : oddD.length = 13 := rfl
        rw [← h13, ← this]
        exact (List.getElem?_eq_some_iff.mp hy).1
      refine ⟨_, rfl, _, rfl, oa, _, rfl, .inr (gG.kp.tup ho), q, _, _, rfl, by rw [ivs_len]; omega, by rw [ivs_len]; omega, gG.pen, by omega, fun spot G2 d0 d1 g2 => ?_⟩
      have hlG2 := g2.kp.lst lp hlG
      refine ⟨_, rfl, .inl ⟨rfl, _, SqL.of hlG2⟩, ?_⟩
      have PG : IsL q.p (hd l G2) := by
        obtain ⟨z, hz⟩ := g2.pen.lst
        exact ⟨z, by rw [hd_ne lp.symm]; exact hz⟩
      have gG2 : Go q (200 * i + 30 + j + 1) H3 G2 := gG.trans g2
      have xg : Dx K (hd q.p (hd l G2)) (.ref oa) (.tuple (dvs os)) := by
        rw [← hd_comm]
        exact Dx.same (same_hd2k nl gG2.kp) xo
      have xy : Dx K (hd q.p (hd l G2)) y dy := by
        rw [← hd_comm]
        exact Dx.same (hd2_kp g2.kp) hox
      have c1 := cut_len (dvs os) none (some spot)
      have c2 := cut_len (dvs os) (some (spot + 1)) none
      refine Evs.at2 (K := K) (p := q.p) (l := l) (ds := [.tuple (cutD (dvs os) none (some spot) ++ [dy] ++ cutD (dvs os) (some (spot + 1)) none)]) ?e4 hlG2 fun vs G3 u4 tv => ?_
      case e4 =>
        refine evs_cons ?_ evs_nil
        refine ev_catT PG (ev_catT PG (ev_slT PG (ev_var rfl xg) evo_none (evo_some (K := K) (p := q.p) (ev_var rfl (.int spot)))) (ev_tup PG (evs_cons (ev_var rfl xy) evs_nil) (show 1 ≤ 100000 by decide)) ?_) (ev_slT PG (ev_var rfl xg) (evo_some (K := K) (p := q.p) (ev_add (ev_var rfl (.int spot)) ev_int)) evo_none) ?_
        · show _ + 1 ≤ 100000
          omega
        · rw [List.length_append]
          show _ + 1 + _ ≤ 100000
          omega
      obtain ⟨v, rfl, xv⟩ : ∃ v, vs = [v] ∧ Dx K (hd2 q.p l G3) v (.tuple (cutD (dvs os) none (some spot) ++ [dy] ++ cutD (dvs os) (some (spot + 1)) none)) := by
        cases tv with
        | cons h t =>
          cases t
          exact ⟨_, rfl, h⟩
      have hlG3 := u4 _ _ hlG2
      have xl : xs'.length < 100000 := by rw [tG.len]; omega
      have pu := putW_ok (od := dvs os) (by omega) fl (odd_ok dy (List.mem_of_getElem? hdy)) (some spot) (some (spot + 1))
      rw [lod] at pu
      refine ⟨l, _, v, rfl, rfl, hlG3, szl xl, _, _, rfl, (Go.mut pn3 nl (gG2.same u4)).mono (by omega), ?_, ?_, xs' ++ [v], ds' ++ [_], upd_same, ?_, al_app okG (al_cons pu al_nil), by rw [List.length_append]; simp only [List.length_cons, List.length_nil]; omega⟩
      · rw [upd_ne l2l]
        exact u4 _ _ (g2.kp.lst l2p hl2G)
      · rw [hd2_upd]
        exact DxAll.same (hd2_same u4) (DxAll.same (hd2_kp g2.kp) t3G)
      · rw [hd2_upd]
        exact DxAll.app (DxAll.same (hd2_same u4) (DxAll.same (hd2_kp g2.kp) tG)) (.cons xv .nil)
    rintro σ' G ⟨v6, v7, rfl, gG, _, _, xs', ds', hlG, tG, okG, lnG⟩
    have y13 : ys.length = 13 := t3.len
    rw [y13] at gG lnG
    have x25 : xs'.length ≤ 25 := by rw [tG.len]; omega
    refine ⟨_, rfl, l, rfl, ⟨_, SqL.of hlG⟩, for_list (K := K) (a := l) (xs := xs') (fun j σ' H' => ∃ v8 v9 v10 v11, σ' = [some (.ref a), some (.ref q.p), some (.int (0 + (i : Int))), some (.ref oa), some (.ref na), some (.ref l), v6, v7, v8, v9, v10, v11] ∧ Go q (200 * i + 50 + j) G H') ?_ ?_ ?_ ?_⟩
    · exact ⟨_, _, _, _, rfl, Go.refl (gG.pen.mono (by omega))⟩
    · rintro j σ' H' _ ⟨_, _, _, _, _, g⟩
      exact SqL.of (g.kp.lst lp hlG)
    · rintro j y σ' H' hy ⟨v8, v9, v10, v11, rfl, g⟩
      obtain ⟨d, hd', hx⟩ := tG.at hy
      have th := okG d (List.mem_of_getElem? hd')
      have j25 : j < 25 := Nat.lt_of_lt_of_le (List.getElem?_eq_some_iff.mp hy).1 x25
      have PH : IsL q.p H' := g.pen.lst
      refine ⟨szr, fun t1 I1 n1 w1 h1 => ⟨szr, fun t2 I2 n2 w2 h2 => ⟨szr, fun t3 I3 n3 w3 h3 => ⟨szr, fun ol I4 n4 w4 h4 => ?_⟩⟩⟩⟩
      have W4 : Same H' I4 := w1.trans (w2.trans (w3.trans w4))
      refine ⟨_, rfl, q, _, 4, rfl, by decide, by decide, g.pen.same W4, by omega, fun e I5 e0 e1 g5 => ?_⟩
      obtain ⟨n, rfl⟩ := Int.eq_ofNat_of_zero_le e0
      have n4' : n < 4 := by omega
      have olp : ol ≠ q.p := (PH.same (w1.trans (w2.trans w3))).ne n4
      obtain ⟨ov, od, hov, xov, wov⟩ : ∃ (ov : V) (od : PyData), [V.non, .ref t1, .ref t2, .ref t3][n]? = some ov ∧ Dx K I5 ov od ∧ WdD od := by
        have k1 : I5 t1 = some (.tup [.bl true]) := g5.kp.tup (w4 _ _ (w3 _ _ (w2 _ _ h1)))
        have k2 : I5 t2 = some (.tup [.bl true, .int 0, .int 1]) := g5.kp.tup (w4 _ _ (w3 _ _ h2))
        have k3 : I5 t3 = some (.tup []) := g5.kp.tup (w4 _ _ h3)
        rcases (show n = 0 ∨ n = 1 ∨ n = 2 ∨ n = 3 by omega) with rfl | rfl | rfl | rfl
        · exact ⟨_, _, rfl, .non, wd_flat rfl⟩
        · exact ⟨_, _, rfl, .tup k1 (.cons (.bl _) .nil), wd_tup (by decide)⟩
        · exact ⟨_, _, rfl, .tup k2 (.cons (.bl _) (.cons (.int _) (.cons (.int _) .nil))), wd_tup (by decide)⟩
        · exact ⟨_, _, rfl, .tup k3 .nil, wd_tup (by decide)⟩
      refine ⟨ol, _, _, ov, rfl, rfl, .inl (g5.kp.lst olp h4), atI_nat hov, ?_⟩
      have gI : Go q (200 * i + 50 + (j + 1)) G I5 := ((g.same W4).trans g5).mono (by omega)
      have hxH : Dx K I5 y d := Dx.same hd2_in (Dx.same (hd2_kp gI.kp) hx)
      have hoI := gI.kp.tup (gG.kp.tup ho)
      have hnI := gI.kp.tup (gG.kp.tup hn)
      have sh := th.s.b.sh
      have dp : d.depth ≤ 60 := Nat.le_trans th.s.b.dp (by decide)
      have tx : d.shown.length ≤ sizeLine := Nat.le_trans th.s.b.tx (by decide)
      refine ⟨_, rfl, _, _, rfl, hxH, sh, dp, tx, ?_⟩
      refine ⟨4, rfl, by decide, by decide, for_range (n := 4) (lo := 0) (fun c σ' H' => ∃ v11, σ' = [some (.ref a), some (.ref q.p), some (.int (0 + (i : Int))), some (.ref oa), some (.ref na), some (.ref l), v6, v7, some y, some ov, some (.str d.shown), v11] ∧ Same I5 H') ?_ ?_ ?_⟩
      · exact ⟨_, rfl, Same.refl _⟩
      · rintro c σ' G4 hc ⟨v11, rfl, s⟩
        refine ⟨_, rfl, _, rfl, _, rfl, _, rfl, _, y, .ref na, ov, d, _, od, rfl, Dx.same s hxH, dxn (s _ _ hnI), Dx.same s xov, th.s.w, wb, wov, fun G5 s5 => ?_⟩
        rw [errW (th.no1 lnd)]
        refine ⟨rfl, _, rfl, iteF' (by simp) ?_⟩
        have S5 := s.trans s5
        refine ⟨_, rfl, _, rfl, _, rfl, _, rfl, _, .ref oa, y, ov, _, d, od, rfl, dxo (S5 _ _ hoI), Dx.same S5 hxH, Dx.same S5 xov, wa, th.s.w, wov, fun G6 s6 => ?_⟩
        rw [errW (th.no2 lod2)]
        exact ⟨rfl, _, rfl, iteF' (by simp) ⟨_, rfl, S5.trans s6⟩⟩
      · rintro σ' G4 ⟨v11, rfl, s⟩
        refine ⟨_, rfl, _, _, rfl, Dx.same s hxH, sh, dp, tx, _, rfl, rfl, _, rfl, iteF' (by simp) ?_⟩
        exact ⟨_, _, _, _, rfl, gI.same s⟩
    · rintro σ' H' ⟨v8, v9, v10, v11, rfl, g⟩
      refine ⟨szr, fun z1 I1 n1 w1 h1 => ⟨z1, 8, _, rfl, rfl, h1, by simp, by decide, by decide, by decide, fun r1 I2 w2 h2 => ?_⟩⟩
      refine ⟨szr, fun z2 I3 n3 w3 h3 => ⟨z2, 8, _, rfl, rfl, h3, by simp, by decide, by decide, by decide, fun r2 I4 w4 h4 => ?_⟩⟩
      have k2 : I4 r1 = some (.tup (ivs (List.replicate 8 0))) := w4 _ _ (w3 _ _ h2)
      have k4 : I4 r2 = some (.tup (ivs (List.replicate 8 1))) := h4
      refine ⟨0, .ref r1, .ref r2, .non, _, _, .none, rfl, Dx.of (.tup k2 (dq_ints _)), Dx.of (.tup k4 (dq_ints _)), .non, wd_ints (by decide), wd_ints (by decide), wd_flat rfl, fun I5 w5 => ?_⟩
      rw [errW (show wOk (.tuple (dvs (List.replicate 8 0))) (.tuple (dvs (List.replicate 8 1))) = false by decide +kernel)]
      refine ⟨rfl, _, rfl, iteF' (by simp) ?_⟩
      have WI := w1.trans (w2.trans (w3.trans (w4.trans w5)))
      have gI := g.same WI
      refine ⟨_, rfl, _, rfl, _, rfl, q, _, oa, na, os, ns2, rfl, gI.pen, by omega, gI.kp.tup (gG.kp.tup ho), gI.kp.tup (gG.kp.tup hn), p, fun I6 g6 => ⟨_, rfl, iteF ?_⟩⟩
      exact ⟨_, _, _, _, _, _, _, _, _, _, rfl, g6.pen.mono (by omega)⟩
  · rintro σ' H2 ⟨v2, v3, v4, v5, v6, v7, v8, v9, v10, v11, rfl, pn2⟩
    exact k H2
end
end Af

set_option Elab.async false
set_option linter.all false
set_option maxRecDepth 100000
set_option maxHeartbeats 4000000
namespace Af
open PySem L2
def tyV : Value → Bool
  | .type _ => true
  | _ => false
theorem mro_ty : ∀ n ∈ tyNames, (fastBuiltinMro n).elim false (·.all tyV) = true := by decide +kernel
theorem sub_ty {K : PySem.W.Frag} {C : Addr} {n : String} (h : n ∈ tyNames) : PySem.W.subIn K (.type n) (.ref C) = some false := by
  have q := mro_ty n h
  show (fastBuiltinMro n).map (·.contains (.ref C)) = some false
  cases e : fastBuiltinMro n with
  | none =>
    rw [e] at q
    cases q
  | some l =>
    rw [e] at q
    show some (l.contains (.ref C)) = some false
    congr 1
    refine Bool.eq_false_iff.mpr fun z => ?_
    have m : Value.ref C ∈ l := by simpa using z
    have := List.all_eq_true.mp q _ m
    cases this
theorem is_own {K : PySem.W.Frag} {t : Value} : PySem.W.kitOne K t t = some true := by
  unfold PySem.W.kitOne
  rw [if_pos (by simp)]
theorem is_no {K : PySem.W.Frag} {C D : Addr} (ic : PySem.W.isClsIn K D = true) (tc : PySem.W.typeIn K (.ref D) = some (.type "type")) (s : PySem.W.subIn K (.ref C) (.ref D) = some false) (n : (Value.ref C == Value.ref D) = false) : PySem.W.kitOne K (.ref C) (.ref D) = some false := by
  unfold PySem.W.kitOne
  rw [if_neg (by rw [n]; decide)]
  show (if ((PySem.W.clsIn K D).isSome && PySem.W.typeIn K (.ref D) == some (.type "type")) = true then PySem.W.subIn K (.ref C) (.ref D) else none) = some false
  rw [if_pos (by rw [tc, show (PySem.W.clsIn K D).isSome = true from ic]; simp)]
  exact s
theorem any_no {K : PySem.W.Frag} {C : Value} {D : Value} {l : List Value} (h : PySem.W.kitOne K C D = some false) (t : PySem.W.kitAny K C l = some false) : PySem.W.kitAny K C (D :: l) = some false :=
  kitAny_cons h (fun _ => t) (fun z => by cases z)
theorem first_not {K : PySem.W.Frag} {C : Addr} {n : String} (h : n ∈ tyNames) : PySem.W.notFirst K C (.type n) = true := by
  unfold PySem.W.notFirst
  rw [sub_ty h]
  simp
theorem is_not {K : PySem.W.Frag} {C : Addr} {n : String} (h : n ∈ tyNames) (ic : PySem.W.isClsIn K C = true) (tc : PySem.W.typeIn K (.ref C) = some (.type "type")) : PySem.W.kitOne K (.type n) (.ref C) = some false := by
  unfold PySem.W.kitOne
  rw [if_neg (by simp)]
  show (if ((PySem.W.clsIn K C).isSome && PySem.W.typeIn K (.ref C) == some (.type "type")) = true then PySem.W.subIn K (.type n) (.ref C) else none) = some false
  rw [if_pos (by rw [tc, show (PySem.W.clsIn K C).isSome = true from ic]; simp)]
  exact sub_ty h
theorem all_mk {l : PySem.W.OpenLaw} {w : World} {K : PySem.W.Frag} {h : Heap} {mg : Str → Option Value} {fa C : Addr} (X : K.In h) (G : h.Ns mainGlobals mg) (hfa : mg "law" = some (.ref fa))
    {f1 : Addr} {od1 an1 : Option Addr} {sl1 : Array (Option Value)} {oc1 kV1 dc1 pm1 cd1 ct1 : Value}
    {f2 : Addr} {od2 an2 : Option Addr} {sl2 : Array (Option Value)} {oc2 kV2 dc2 pm2 cd2 ct2 : Value}
    {f3 : Addr} {od3 an3 : Option Addr} {sl3 : Array (Option Value)} {oc3 kV3 dc3 pm3 cd3 ct3 : Value}
    {f4 : Addr} {od4 an4 : Option Addr} {sl4 : Array (Option Value)} {oc4 kV4 dc4 pm4 cd4 ct4 : Value}
    {f5 : Addr} {od5 an5 : Option Addr} {sl5 : Array (Option Value)} {oc5 kV5 dc5 pm5 cd5 ct5 : Value}
    {f6 : Addr} {od6 an6 : Option Addr} {sl6 : Array (Option Value)} {oc6 kV6 dc6 pm6 cd6 ct6 : Value}
    {f7 : Addr} {od7 an7 : Option Addr} {sl7 : Array (Option Value)} {oc7 kV7 dc7 pm7 cd7 ct7 : Value}
    {f8 : Addr} {od8 an8 : Option Addr} {sl8 : Array (Option Value)} {oc8 kV8 dc8 pm8 cd8 ct8 : Value}
    {f9 : Addr} {od9 an9 : Option Addr} {sl9 : Array (Option Value)} {oc9 kV9 dc9 pm9 cd9 ct9 : Value}
    {f10 : Addr} {od10 an10 : Option Addr} {sl10 : Array (Option Value)} {oc10 kV10 dc10 pm10 cd10 ct10 : Value}
    {f11 : Addr} {od11 an11 : Option Addr} {sl11 : Array (Option Value)} {oc11 kV11 dc11 pm11 cd11 ct11 : Value}
    {f12 : Addr} {od12 an12 : Option Addr} {sl12 : Array (Option Value)} {oc12 kV12 dc12 pm12 cd12 ct12 : Value}
    {f13 : Addr} {od13 an13 : Option Addr} {sl13 : Array (Option Value)} {oc13 kV13 dc13 pm13 cd13 ct13 : Value}
    {f14 : Addr} {od14 an14 : Option Addr} {sl14 : Array (Option Value)} {oc14 kV14 dc14 pm14 cd14 ct14 : Value}
    {f15 : Addr} {od15 an15 : Option Addr} {sl15 : Array (Option Value)} {oc15 kV15 dc15 pm15 cd15 ct15 : Value}
    {f16 : Addr} {od16 an16 : Option Addr} {sl16 : Array (Option Value)} {oc16 kV16 dc16 pm16 cd16 ct16 : Value}
    {f17 : Addr} {od17 an17 : Option Addr} {sl17 : Array (Option Value)} {oc17 kV17 dc17 pm17 cd17 ct17 : Value}
    {f18 : Addr} {od18 an18 : Option Addr} {sl18 : Array (Option Value)} {oc18 kV18 dc18 pm18 cd18 ct18 : Value}
    {f19 : Addr} {od19 an19 : Option Addr} {sl19 : Array (Option Value)} {oc19 kV19 dc19 pm19 cd19 ct19 : Value}
    {f20 : Addr} {od20 an20 : Option Addr} {sl20 : Array (Option Value)} {oc20 kV20 dc20 pm20 cd20 ct20 : Value}
    {f21 : Addr} {od21 an21 : Option Addr} {sl21 : Array (Option Value)} {oc21 kV21 dc21 pm21 cd21 ct21 : Value}
    {f22 : Addr} {od22 an22 : Option Addr} {sl22 : Array (Option Value)} {oc22 kV22 dc22 pm22 cd22 ct22 : Value}
    {f23 : Addr} {od23 an23 : Option Addr} {sl23 : Array (Option Value)} {oc23 kV23 dc23 pm23 cd23 ct23 : Value}
    {f24 : Addr} {od24 an24 : Option Addr} {sl24 : Array (Option Value)} {oc24 kV24 dc24 pm24 cd24 ct24 : Value}
    {f25 : Addr} {od25 an25 : Option Addr} {sl25 : Array (Option Value)} {oc25 kV25 dc25 pm25 cd25 ct25 : Value}
    {f26 : Addr} {od26 an26 : Option Addr} {sl26 : Array (Option Value)} {oc26 kV26 dc26 pm26 cd26 ct26 : Value}
    {f27 : Addr} {od27 an27 : Option Addr} {sl27 : Array (Option Value)} {oc27 kV27 dc27 pm27 cd27 ct27 : Value}
    {f28 : Addr} {od28 an28 : Option Addr} {sl28 : Array (Option Value)} {oc28 kV28 dc28 pm28 cd28 ct28 : Value}
    {f29 : Addr} {od29 an29 : Option Addr} {sl29 : Array (Option Value)} {oc29 kV29 dc29 pm29 cd29 ct29 : Value}
    {CF IC IP IW IB : Addr}
    {tk0 : Nat}
    {tk1 : Nat}
    {tk2 : Nat}
    {tk3 : Nat}
    {ta0 : Addr} {td0 : Option Addr} {ti0 : Array Value} {tn0 : Nat} {ts0 : Array (Option Value)}
    (a1 : PySem.W.nsIn K mainGlobals "is_integer" = some (some (.ref f1))) (l1 : K.lookup f1 = some ⟨oc1, od1, .func (PySem.W.fnOf "is_integer" "is_integer" (defArgs s_is_integer) (defBody s_is_integer) (defScope s_is_integer) .none kV1 dc1 pm1 an1 cd1 ct1), sl1⟩) (c1 : PySem.W.codeIn K cd1 "is_integer" = true) (k1 : PySem.W.keepIn K (.ref f1) = true)
    (a2 : PySem.W.nsIn K mainGlobals "is_index" = some (some (.ref f2))) (l2 : K.lookup f2 = some ⟨oc2, od2, .func (PySem.W.fnOf "is_index" "is_index" (defArgs s_is_index) (defBody s_is_index) (defScope s_is_index) .none kV2 dc2 pm2 an2 cd2 ct2), sl2⟩) (c2 : PySem.W.codeIn K cd2 "is_index" = true) (k2 : PySem.W.keepIn K (.ref f2) = true)
    (a3 : PySem.W.nsIn K mainGlobals "is_width" = some (some (.ref f3))) (l3 : K.lookup f3 = some ⟨oc3, od3, .func (PySem.W.fnOf "is_width" "is_width" (defArgs s_is_width) (defBody s_is_width) (defScope s_is_width) .none kV3 dc3 pm3 an3 cd3 ct3), sl3⟩) (c3 : PySem.W.codeIn K cd3 "is_width" = true) (k3 : PySem.W.keepIn K (.ref f3) = true)
    (a4 : PySem.W.nsIn K mainGlobals "are_worths" = some (some (.ref f4))) (l4 : K.lookup f4 = some ⟨oc4, od4, .func (PySem.W.fnOf "are_worths" "are_worths" (defArgs s_are_worths) (defBody s_are_worths) (defScope s_are_worths) .none kV4 dc4 pm4 an4 cd4 ct4), sl4⟩) (c4 : PySem.W.codeIn K cd4 "are_worths" = true) (k4 : PySem.W.keepIn K (.ref f4) = true)
    (a5 : PySem.W.nsIn K mainGlobals "is_content" = some (some (.ref f5))) (l5 : K.lookup f5 = some ⟨oc5, od5, .func (PySem.W.fnOf "is_content" "is_content" (defArgs s_is_content) (defBody s_is_content) (defScope s_is_content) .none kV5 dc5 pm5 an5 cd5 ct5), sl5⟩) (c5 : PySem.W.codeIn K cd5 "is_content" = true) (k5 : PySem.W.keepIn K (.ref f5) = true)
    (a6 : PySem.W.nsIn K mainGlobals "is_step" = some (some (.ref f6))) (l6 : K.lookup f6 = some ⟨oc6, od6, .func (PySem.W.fnOf "is_step" "is_step" (defArgs s_is_step) (defBody s_is_step) (defScope s_is_step) .none kV6 dc6 pm6 an6 cd6 ct6), sl6⟩) (c6 : PySem.W.codeIn K cd6 "is_step" = true) (k6 : PySem.W.keepIn K (.ref f6) = true)
    (a7 : PySem.W.nsIn K mainGlobals "_broken" = some (some (.ref f7))) (l7 : K.lookup f7 = some ⟨oc7, od7, .func (PySem.W.fnOf "_broken" "_broken" (defArgs s_broken) (defBody s_broken) (defScope s_broken) .none kV7 dc7 pm7 an7 cd7 ct7), sl7⟩) (c7 : PySem.W.codeIn K cd7 "_broken" = true) (k7 : PySem.W.keepIn K (.ref f7) = true)
    (a8 : PySem.W.nsIn K mainGlobals "_pieces_of" = some (some (.ref f8))) (l8 : K.lookup f8 = some ⟨oc8, od8, .func (PySem.W.fnOf "_pieces_of" "_pieces_of" (defArgs s_pieces_of) (defBody s_pieces_of) (defScope s_pieces_of) .none kV8 dc8 pm8 an8 cd8 ct8), sl8⟩) (c8 : PySem.W.codeIn K cd8 "_pieces_of" = true) (k8 : PySem.W.keepIn K (.ref f8) = true)
    (a9 : PySem.W.nsIn K mainGlobals "is_room" = some (some (.ref f9))) (l9 : K.lookup f9 = some ⟨oc9, od9, .func (PySem.W.fnOf "is_room" "is_room" (defArgs s_is_room) (defBody s_is_room) (defScope s_is_room) .none kV9 dc9 pm9 an9 cd9 ct9), sl9⟩) (c9 : PySem.W.codeIn K cd9 "is_room" = true) (k9 : PySem.W.keepIn K (.ref f9) = true)
    (a10 : PySem.W.nsIn K mainGlobals "are_steps" = some (some (.ref f10))) (l10 : K.lookup f10 = some ⟨oc10, od10, .func (PySem.W.fnOf "are_steps" "are_steps" (defArgs s_are_steps) (defBody s_are_steps) (defScope s_are_steps) .none kV10 dc10 pm10 an10 cd10 ct10), sl10⟩) (c10 : PySem.W.codeIn K cd10 "are_steps" = true) (k10 : PySem.W.keepIn K (.ref f10) = true)
    (a11 : PySem.W.nsIn K mainGlobals "_epochs_of" = some (some (.ref f11))) (l11 : K.lookup f11 = some ⟨oc11, od11, .func (PySem.W.fnOf "_epochs_of" "_epochs_of" (defArgs s_epochs_of) (defBody s_epochs_of) (defScope s_epochs_of) .none kV11 dc11 pm11 an11 cd11 ct11), sl11⟩) (c11 : PySem.W.codeIn K cd11 "_epochs_of" = true) (k11 : PySem.W.keepIn K (.ref f11) = true)
    (a12 : PySem.W.nsIn K mainGlobals "_law_pen" = some (some (.ref f12))) (l12 : K.lookup f12 = some ⟨oc12, od12, .func (PySem.W.fnOf "_law_pen" "_law_pen" (defArgs s_l_pen) (defBody s_l_pen) (defScope s_l_pen) .none kV12 dc12 pm12 an12 cd12 ct12), sl12⟩) (c12 : PySem.W.codeIn K cd12 "_law_pen" = true) (k12 : PySem.W.keepIn K (.ref f12) = true)
    (a13 : PySem.W.nsIn K mainGlobals "_law_next" = some (some (.ref f13))) (l13 : K.lookup f13 = some ⟨oc13, od13, .func (PySem.W.fnOf "_law_next" "_law_next" (defArgs s_l_next) (defBody s_l_next) (defScope s_l_next) .none kV13 dc13 pm13 an13 cd13 ct13), sl13⟩) (c13 : PySem.W.codeIn K cd13 "_law_next" = true) (k13 : PySem.W.keepIn K (.ref f13) = true)
    (a14 : PySem.W.nsIn K mainGlobals "_law_draw" = some (some (.ref f14))) (l14 : K.lookup f14 = some ⟨oc14, od14, .func (PySem.W.fnOf "_law_draw" "_law_draw" (defArgs s_l_draw) (defBody s_l_draw) (defScope s_l_draw) .none kV14 dc14 pm14 an14 cd14 ct14), sl14⟩) (c14 : PySem.W.codeIn K cd14 "_law_draw" = true) (k14 : PySem.W.keepIn K (.ref f14) = true)
    (a15 : PySem.W.nsIn K mainGlobals "_check_worths" = some (some (.ref f15))) (l15 : K.lookup f15 = some ⟨oc15, od15, .func (PySem.W.fnOf "_check_worths" "_check_worths" (defArgs s_check_worths) (defBody s_check_worths) (defScope s_check_worths) .none kV15 dc15 pm15 an15 cd15 ct15), sl15⟩) (c15 : PySem.W.codeIn K cd15 "_check_worths" = true) (k15 : PySem.W.keepIn K (.ref f15) = true)
    (a16 : PySem.W.nsIn K mainGlobals "_check_barriers" = some (some (.ref f16))) (l16 : K.lookup f16 = some ⟨oc16, od16, .func (PySem.W.fnOf "_check_barriers" "_check_barriers" (defArgs s_check_barriers) (defBody s_check_barriers) (defScope s_check_barriers) .none kV16 dc16 pm16 an16 cd16 ct16), sl16⟩) (c16 : PySem.W.codeIn K cd16 "_check_barriers" = true) (k16 : PySem.W.keepIn K (.ref f16) = true)
    (a17 : PySem.W.nsIn K mainGlobals "_with_barriers" = some (some (.ref f17))) (l17 : K.lookup f17 = some ⟨oc17, od17, .func (PySem.W.fnOf "_with_barriers" "_with_barriers" (defArgs s_with_barriers) (defBody s_with_barriers) (defScope s_with_barriers) .none kV17 dc17 pm17 an17 cd17 ct17), sl17⟩) (c17 : PySem.W.codeIn K cd17 "_with_barriers" = true) (k17 : PySem.W.keepIn K (.ref f17) = true)
    (a18 : PySem.W.nsIn K mainGlobals "_mixed" = some (some (.ref f18))) (l18 : K.lookup f18 = some ⟨oc18, od18, .func (PySem.W.fnOf "_mixed" "_mixed" (defArgs s_mixed) (defBody s_mixed) (defScope s_mixed) .none kV18 dc18 pm18 an18 cd18 ct18), sl18⟩) (c18 : PySem.W.codeIn K cd18 "_mixed" = true) (k18 : PySem.W.keepIn K (.ref f18) = true)
    (a19 : PySem.W.nsIn K mainGlobals "_unlike" = some (some (.ref f19))) (l19 : K.lookup f19 = some ⟨oc19, od19, .func (PySem.W.fnOf "_unlike" "_unlike" (defArgs s_unlike) (defBody s_unlike) (defScope s_unlike) .none kV19 dc19 pm19 an19 cd19 ct19), sl19⟩) (c19 : PySem.W.codeIn K cd19 "_unlike" = true) (k19 : PySem.W.keepIn K (.ref f19) = true)
    (a20 : PySem.W.nsIn K mainGlobals "straight" = some (some (.ref f20))) (l20 : K.lookup f20 = some ⟨oc20, od20, .func (PySem.W.fnOf "straight" "straight" (defArgs s_straight) (defBody s_straight) (defScope s_straight) .none kV20 dc20 pm20 an20 cd20 ct20), sl20⟩) (c20 : PySem.W.codeIn K cd20 "straight" = true) (k20 : PySem.W.keepIn K (.ref f20) = true)
    (a21 : PySem.W.nsIn K mainGlobals "switched" = some (some (.ref f21))) (l21 : K.lookup f21 = some ⟨oc21, od21, .func (PySem.W.fnOf "switched" "switched" (defArgs s_switched) (defBody s_switched) (defScope s_switched) .none kV21 dc21 pm21 an21 cd21 ct21), sl21⟩) (c21 : PySem.W.codeIn K cd21 "switched" = true) (k21 : PySem.W.keepIn K (.ref f21) = true)
    (a22 : PySem.W.nsIn K mainGlobals "logged" = some (some (.ref f22))) (l22 : K.lookup f22 = some ⟨oc22, od22, .func (PySem.W.fnOf "logged" "logged" (defArgs s_logged) (defBody s_logged) (defScope s_logged) .none kV22 dc22 pm22 an22 cd22 ct22), sl22⟩) (c22 : PySem.W.codeIn K cd22 "logged" = true) (k22 : PySem.W.keepIn K (.ref f22) = true)
    (a23 : PySem.W.nsIn K mainGlobals "log_rules" = some (some (.ref f23))) (l23 : K.lookup f23 = some ⟨oc23, od23, .func (PySem.W.fnOf "log_rules" "log_rules" (defArgs s_log_rules) (defBody s_log_rules) (defScope s_log_rules) .none kV23 dc23 pm23 an23 cd23 ct23), sl23⟩) (c23 : PySem.W.codeIn K cd23 "log_rules" = true) (k23 : PySem.W.keepIn K (.ref f23) = true)
    (a24 : PySem.W.nsIn K mainGlobals "_law_pair" = some (some (.ref f24))) (l24 : K.lookup f24 = some ⟨oc24, od24, .func (PySem.W.fnOf "_law_pair" "_law_pair" (defArgs s_l_pair) (defBody s_l_pair) (defScope s_l_pair) .none kV24 dc24 pm24 an24 cd24 ct24), sl24⟩) (c24 : PySem.W.codeIn K cd24 "_law_pair" = true) (k24 : PySem.W.keepIn K (.ref f24) = true)
    (a25 : PySem.W.nsIn K mainGlobals "_law_odd" = some (some (.ref f25))) (l25 : K.lookup f25 = some ⟨oc25, od25, .func (PySem.W.fnOf "_law_odd" "_law_odd" (defArgs s_l_odd) (defBody s_l_odd) (defScope s_l_odd) .none kV25 dc25 pm25 an25 cd25 ct25), sl25⟩) (c25 : PySem.W.codeIn K cd25 "_law_odd" = true) (k25 : PySem.W.keepIn K (.ref f25) = true)
    (a26 : PySem.W.nsIn K mainGlobals "_law_error" = some (some (.ref f26))) (l26 : K.lookup f26 = some ⟨oc26, od26, .func (PySem.W.fnOf "_law_error" "_law_error" (defArgs s_l_error) (defBody s_l_error) (defScope s_l_error) .none kV26 dc26 pm26 an26 cd26 ct26), sl26⟩) (c26 : PySem.W.codeIn K cd26 "_law_error" = true) (k26 : PySem.W.keepIn K (.ref f26) = true)
    (a27 : PySem.W.nsIn K mainGlobals "_law_barriers_right" = some (some (.ref f27))) (l27 : K.lookup f27 = some ⟨oc27, od27, .func (PySem.W.fnOf "_law_barriers_right" "_law_barriers_right" (defArgs s_l_barriers_right) (defBody s_l_barriers_right) (defScope s_l_barriers_right) .none kV27 dc27 pm27 an27 cd27 ct27), sl27⟩) (c27 : PySem.W.codeIn K cd27 "_law_barriers_right" = true) (k27 : PySem.W.keepIn K (.ref f27) = true)
    (a28 : PySem.W.nsIn K mainGlobals "law" = some (some (.ref f28))) (l28 : K.lookup f28 = some ⟨oc28, od28, .func (PySem.W.fnOf "law" "law" (defArgs s_law) (defBody s_law) (defScope s_law) .none kV28 dc28 pm28 an28 cd28 ct28), sl28⟩) (c28 : PySem.W.codeIn K cd28 "law" = true) (k28 : PySem.W.keepIn K (.ref f28) = true)
    (aC : PySem.W.nsIn K mainGlobals "Plan" = some (some (.ref C)))
    (a29 : PySem.W.findIn K (.ref C) "__init__" = some (some (.ref f29))) (i29 : PySem.W.isFn K (.ref f29) = true) (l29 : K.lookup f29 = some ⟨oc29, od29, .func (PySem.W.fnOf "__init__" "Plan.__init__" (defArgs s_Plan___init) (defBody s_Plan___init) (defScope s_Plan___init) .none kV29 dc29 pm29 an29 cd29 ct29), sl29⟩) (c29 : PySem.W.codeIn K cd29 "Plan.__init__" = true) (k29 : PySem.W.keepIn K (.ref f29) = true)
    (pg : PySem.W.plainGet K C Str.empty = true) (hd : PySem.W.hasDictIn K C = true) (po : PySem.W.plainOver K C = true) (sa : PySem.W.findIn K (.ref C) "__setattr__" = some (some (.builtin "object.__setattr__"))) (mk : PySem.W.makesIn K C = true) (kc : PySem.W.keepIn K (.ref C) = true)
    (ic : PySem.W.isClsIn K C = true) (tc : PySem.W.typeIn K (.ref C) = some (.type "type")) (ha : PySem.W.findIn K (.ref C) "__class__" = some (some (.builtin "object.__class__"))) (hn : PySem.W.specialIn K (.builtin "object.__class__") "__get__" = some (some (.builtin "getset_descriptor.__get__"))) (htk : PySem.W.takesIn K (.builtin "object.__class__") = some true) (hm : PySem.W.mroIn K C (.type "object") = some true)
    (n0 : PySem.W.findIn K (.ref C) "_base" = some none)
    (n1 : PySem.W.findIn K (.ref C) "_width" = some none)
    (n2 : PySem.W.findIn K (.ref C) "_steps" = some none)
    (n3 : PySem.W.findIn K (.ref C) "_pieces" = some none)
    (n4 : PySem.W.findIn K (.ref C) "_piece_epochs" = some none)
    (n5 : PySem.W.findIn K (.ref C) "_epochs" = some none)
    (gCF : PySem.W.nsIn K mainGlobals "FallError" = some (some (.ref CF)))
    (gIC : PySem.W.nsIn K mainGlobals "InvalidContent" = some (some (.ref IC)))
    (gIP : PySem.W.nsIn K mainGlobals "InvalidPlan" = some (some (.ref IP)))
    (gIW : PySem.W.nsIn K mainGlobals "InvalidWorths" = some (some (.ref IW)))
    (gIB : PySem.W.nsIn K mainGlobals "InvalidBarriers" = some (some (.ref IB)))
    (yb : PySem.W.subIn K (.ref CF) (.type "BaseException") = some true)
    (yd : PySem.W.hasDictIn K CF = true)
    (yt : PySem.W.typeIn K (.ref CF) = some (.type "type"))
    (c1IB : PySem.W.isClsIn K IB = true)
    (c2IB : PySem.W.typeIn K (.ref IB) = some (.type "type"))
    (c1IC : PySem.W.isClsIn K IC = true)
    (c2IC : PySem.W.typeIn K (.ref IC) = some (.type "type"))
    (c1IP : PySem.W.isClsIn K IP = true)
    (c2IP : PySem.W.typeIn K (.ref IP) = some (.type "type"))
    (c1IW : PySem.W.isClsIn K IW = true)
    (c2IW : PySem.W.typeIn K (.ref IW) = some (.type "type"))
    (xxIW : PySem.W.excIn K IW [.type "ValueError", .type "Exception", .type "BaseException", .type "object"] "ValueError.__new__" = true)
    (xkIW : PySem.W.keepIn K (.ref IW) = true)
    (xbIW : PySem.W.subIn K (.ref IW) (.type "BaseException") = some true)
    (xtIW : PySem.W.typeIn K (.ref IW) = some (.type "type"))
    (xdIW : PySem.W.hasDictIn K IW = true)
    (xcIW : PySem.W.findIn K (.ref IW) "__class__" = some (some (.builtin "object.__class__")))
    (xmIW : PySem.W.mroIn K IW (.type "object") = some true)
    (xgaIW : PySem.W.findIn K (.ref IW) "__getattribute__" = some (some (.builtin "BaseException.__getattribute__")))
    (xgtIW : PySem.W.findIn K (.ref IW) "__getattr__" = some none)
    (yeIW : PySem.W.subIn K (.ref IW) (.ref CF) = some true)
    (noIWIC : PySem.W.subIn K (.ref IW) (.ref IC) = some false)
    (neIWIC : (Value.ref IW == Value.ref IC) = false)
    (noIWIP : PySem.W.subIn K (.ref IW) (.ref IP) = some false)
    (neIWIP : (Value.ref IW == Value.ref IP) = false)
    (noIWIB : PySem.W.subIn K (.ref IW) (.ref IB) = some false)
    (neIWIB : (Value.ref IW == Value.ref IB) = false)
    (xxIB : PySem.W.excIn K IB [.type "ValueError", .type "Exception", .type "BaseException", .type "object"] "ValueError.__new__" = true)
    (xkIB : PySem.W.keepIn K (.ref IB) = true)
    (xbIB : PySem.W.subIn K (.ref IB) (.type "BaseException") = some true)
    (xtIB : PySem.W.typeIn K (.ref IB) = some (.type "type"))
    (xdIB : PySem.W.hasDictIn K IB = true)
    (xcIB : PySem.W.findIn K (.ref IB) "__class__" = some (some (.builtin "object.__class__")))
    (xmIB : PySem.W.mroIn K IB (.type "object") = some true)
    (xgaIB : PySem.W.findIn K (.ref IB) "__getattribute__" = some (some (.builtin "BaseException.__getattribute__")))
    (xgtIB : PySem.W.findIn K (.ref IB) "__getattr__" = some none)
    (yeIB : PySem.W.subIn K (.ref IB) (.ref CF) = some true)
    (noIBIC : PySem.W.subIn K (.ref IB) (.ref IC) = some false)
    (neIBIC : (Value.ref IB == Value.ref IC) = false)
    (noIBIP : PySem.W.subIn K (.ref IB) (.ref IP) = some false)
    (neIBIP : (Value.ref IB == Value.ref IP) = false)
    (noIBIW : PySem.W.subIn K (.ref IB) (.ref IW) = some false)
    (neIBIW : (Value.ref IB == Value.ref IW) = false)
    (zr : PySem.W.nsIn K mainGlobals "repr" = some none)
    (z0 : PySem.W.nsIn K mainGlobals "len" = some none)
    (z1 : PySem.W.nsIn K mainGlobals "int" = some none)
    (z2 : PySem.W.nsIn K mainGlobals "list" = some none)
    (z3 : PySem.W.nsIn K mainGlobals "tuple" = some none)
    (z4 : PySem.W.nsIn K mainGlobals "range" = some none)
    (z5 : PySem.W.nsIn K mainGlobals "min" = some none)
    (z6 : PySem.W.nsIn K mainGlobals "all" = some none)
    (z7 : PySem.W.nsIn K mainGlobals "enumerate" = some none)
    (z8 : PySem.W.nsIn K mainGlobals "zip" = some none)
    (z9 : PySem.W.nsIn K mainGlobals "isinstance" = some none)
    (z10 : PySem.W.nsIn K mainGlobals "bool" = some none)
    (zo : PySem.W.nsIn K mainGlobals "sorted" = some none)
    (m0 : PySem.W.nsIn K mainGlobals "MOST_CELLS" = some (some (.int 24 tk0)))
    (m1 : PySem.W.nsIn K mainGlobals "MOST_STEPS" = some (some (.int 40 tk1)))
    (m2 : PySem.W.nsIn K mainGlobals "MOST_PIECES" = some (some (.int 40 tk2)))
    (m3 : PySem.W.nsIn K mainGlobals "MOST_WORTHS" = some (some (.int 7 tk3)))
    (u0 : PySem.W.nsIn K mainGlobals "ALL_WORTHS" = some (some (.ref ta0))) (w0 : K.lookup ta0 = some ⟨.type "tuple", td0, .seq ti0 tn0, ts0⟩) (x0 : ti0.size ≤ sizeLine) (y0 : Vals (ivs [0, 1, 2, 3, 4, 5, 6, 7]) ti0.toList) :
    ∃ fd : FuncData, (∀ (s : Shared) (v : Value), BindsTo s fd ⟨[v], []⟩ [("_law_script", v)]) ∧ ∀ base : Heap, K.In base → base.Ns mainGlobals mg → FnG l.prog w K mg base 11 fa fd ["_law_script"] (sp_law K) := by
  have e := hfa.symm.trans (PySem.W.mg_of X G a28)
  cases e
  have T : Txt mg := ⟨PySem.W.mg_none_of X G z0, PySem.W.mg_none_of X G z1, PySem.W.mg_none_of X G z2, PySem.W.mg_none_of X G z3, PySem.W.mg_none_of X G z4, PySem.W.mg_none_of X G z5, PySem.W.mg_none_of X G z6, PySem.W.mg_none_of X G z7, PySem.W.mg_none_of X G z8, PySem.W.mg_none_of X G z9, PySem.W.mg_none_of X G z10⟩
  have CK : Cst K mg := ⟨⟨_, PySem.W.mg_of X G m0⟩, ⟨_, PySem.W.mg_of X G m1⟩, ⟨_, PySem.W.mg_of X G m2⟩, ⟨_, PySem.W.mg_of X G u0, fun H => .inr ⟨_, ti0, tn0, w0, rfl, rfl, x0, y0⟩⟩⟩
  have TC : PlanC K mg C := ⟨⟨pg, hd, po, sa⟩, n0, n1, n2, n3, n4, n5, PySem.W.mg_of X G aC, is_own, fun n hn => is_not hn ic tc, fun n hn => first_not hn, ha, hn, htk, hm⟩
  have F_Plan___init := fun_mk (st := s_Plan___init) l29 c29 k29
  have b_Plan___init := F_Plan___init.binds (ps := ["self", "base", "width", "steps"]) fun _ _ _ _ _ _ us hl => match us, hl with | [_, _, _, _], _ => rfl
  have M_Plan___init : Mk K C f29 := ⟨mk, a29, i29, kc⟩
  have X_IW : ExcC K mg "InvalidWorths" IW := ⟨PySem.W.mg_of X G gIW, xxIW, xkIW, xbIW, xtIW⟩
  have I_IW : L2.ExcC K IW := ⟨xgaIW, xgtIW, xbIW, xdIW, xcIW, hn, htk, xmIW⟩
  have m_IW : PySem.W.exmOne K (.ref IW) (.ref CF) = some true := PySem.W.exm_ref yb yd yt yeIW
  have q_IW_IC : PySem.W.kitOne K (.ref IW) (.ref IC) = some false := is_no c1IC c2IC noIWIC neIWIC
  have q_IW_IP : PySem.W.kitOne K (.ref IW) (.ref IP) = some false := is_no c1IP c2IP noIWIP neIWIP
  have q_IW_IB : PySem.W.kitOne K (.ref IW) (.ref IB) = some false := is_no c1IB c2IB noIWIB neIWIB
  have X_IB : ExcC K mg "InvalidBarriers" IB := ⟨PySem.W.mg_of X G gIB, xxIB, xkIB, xbIB, xtIB⟩
  have I_IB : L2.ExcC K IB := ⟨xgaIB, xgtIB, xbIB, xdIB, xcIB, hn, htk, xmIB⟩
  have m_IB : PySem.W.exmOne K (.ref IB) (.ref CF) = some true := PySem.W.exm_ref yb yd yt yeIB
  have q_IB_IC : PySem.W.kitOne K (.ref IB) (.ref IC) = some false := is_no c1IC c2IC noIBIC neIBIC
  have q_IB_IP : PySem.W.kitOne K (.ref IB) (.ref IP) = some false := is_no c1IP c2IP noIBIP neIBIP
  have q_IB_IW : PySem.W.kitOne K (.ref IB) (.ref IW) = some false := is_no c1IW c2IW noIBIW neIBIW
  refine ⟨PySem.W.fnOf "law" "law" (defArgs s_law) (defBody s_law) (defScope s_law) .none kV28 dc28 pm28 an28 cd28 ct28, fun s v => .of_eq rfl, fun base _ _ => ?_⟩
  have t_repr := PySem.W.mg_none_of X G zr
  have t_zo := PySem.W.mg_none_of X G zo
  have F1 := fun_mk (st := s_is_integer) l1 c1 k1
  have c_is_integer : Cal l.prog w K mg base 1 "is_integer" ["thing"] (sp_is_integer K) := ⟨f1, _, ok_is_integer F1 T, PySem.W.mg_of X G a1, k1, F1.binds (ps := ["thing"]) fun _ _ _ _ _ _ us hl => match us, hl with | [_], _ => rfl⟩
  have F2 := fun_mk (st := s_is_index) l2 c2 k2
  have c_is_index : Cal l.prog w K mg base 2 "is_index" ["thing", "many"] (sp_is_index K) := ⟨f2, _, ok_is_index F2 T c_is_integer, PySem.W.mg_of X G a2, k2, F2.binds (ps := ["thing", "many"]) fun _ _ _ _ _ _ us hl => match us, hl with | [_, _], _ => rfl⟩
  have F3 := fun_mk (st := s_is_width) l3 c3 k3
  have c_is_width : Cal l.prog w K mg base 2 "is_width" ["thing"] (sp_is_width K) := ⟨f3, _, ok_is_width F3 T CK c_is_integer, PySem.W.mg_of X G a3, k3, F3.binds (ps := ["thing"]) fun _ _ _ _ _ _ us hl => match us, hl with | [_], _ => rfl⟩
  have F4 := fun_mk (st := s_are_worths) l4 c4 k4
  have c_are_worths : Cal l.prog w K mg base 3 "are_worths" ["thing"] (sp_are_worths K) := ⟨f4, _, ok_are_worths F4 T CK c_is_index, PySem.W.mg_of X G a4, k4, F4.binds (ps := ["thing"]) fun _ _ _ _ _ _ us hl => match us, hl with | [_], _ => rfl⟩
  have F5 := fun_mk (st := s_is_content) l5 c5 k5
  have c_is_content : Cal l.prog w K mg base 4 "is_content" ["thing"] (sp_is_content K) := ⟨f5, _, ok_is_content F5 T CK c_are_worths, PySem.W.mg_of X G a5, k5, F5.binds (ps := ["thing"]) fun _ _ _ _ _ _ us hl => match us, hl with | [_], _ => rfl⟩
  have F6 := fun_mk (st := s_is_step) l6 c6 k6
  have c_is_step : Cal l.prog w K mg base 4 "is_step" ["cells", "thing"] (sp_is_step K) := ⟨f6, _, ok_is_step F6 T c_is_index c_are_worths, PySem.W.mg_of X G a6, k6, F6.binds (ps := ["cells", "thing"]) fun _ _ _ _ _ _ us hl => match us, hl with | [_, _], _ => rfl⟩
  have F7 := fun_mk (st := s_broken) l7 c7 k7
  have c_broken : Cal l.prog w K mg base 1 "_broken" ["width", "index", "write"] sp_brokenX := ⟨f7, _, ok_brokenX F7 T, PySem.W.mg_of X G a7, k7, F7.binds (ps := ["width", "index", "write"]) fun _ _ _ _ _ _ us hl => match us, hl with | [_, _, _], _ => rfl⟩
  have F8 := fun_mk (st := s_pieces_of) l8 c8 k8
  have c_pieces_of : Cal l.prog w K mg base 2 "_pieces_of" ["width", "steps"] sp_piecesX := ⟨f8, _, ok_piecesX F8 T c_broken, PySem.W.mg_of X G a8, k8, F8.binds (ps := ["width", "steps"]) fun _ _ _ _ _ _ us hl => match us, hl with | [_, _], _ => rfl⟩
  have F9 := fun_mk (st := s_is_room) l9 c9 k9
  have c_is_room : Cal l.prog w K mg base 3 "is_room" ["width", "steps"] sp_roomX := ⟨f9, _, ok_roomX F9 T CK c_pieces_of, PySem.W.mg_of X G a9, k9, F9.binds (ps := ["width", "steps"]) fun _ _ _ _ _ _ us hl => match us, hl with | [_, _], _ => rfl⟩
  have F10 := fun_mk (st := s_are_steps) l10 c10 k10
  have c_are_steps : Cal l.prog w K mg base 5 "are_steps" ["cells", "width", "thing"] (sp_are_steps K sp_roomX) := ⟨f10, _, ok_are_steps F10 T c_is_step c_is_room, PySem.W.mg_of X G a10, k10, F10.binds (ps := ["cells", "width", "thing"]) fun _ _ _ _ _ _ us hl => match us, hl with | [_, _, _], _ => rfl⟩
  have F11 := fun_mk (st := s_epochs_of) l11 c11 k11
  have c_epochs_of : Cal l.prog w K mg base 1 "_epochs_of" ["steps"] sp_epochsX := ⟨f11, _, ok_epochsX F11 T, PySem.W.mg_of X G a11, k11, F11.binds (ps := ["steps"]) fun _ _ _ _ _ _ us hl => match us, hl with | [_], _ => rfl⟩
  have G_Plan := ok_initX (P := l.prog) (w := w) (base := base) F_Plan___init T TC c_is_content c_is_width c_are_steps c_epochs_of c_pieces_of
  have F12 := fun_mk (st := s_l_pen) l12 c12 k12
  have c_l_pen : Cal l.prog w K mg base 1 "_law_pen" ["_law_script"] (sp_pen K) := ⟨f12, _, ok_pen F12 T, PySem.W.mg_of X G a12, k12, F12.binds (ps := ["_law_script"]) fun _ _ _ _ _ _ us hl => match us, hl with | [_], _ => rfl⟩
  have F13 := fun_mk (st := s_l_next) l13 c13 k13
  have c_l_next : Cal l.prog w K mg base 1 "_law_next" ["_law_pen_here"] sp_next := ⟨f13, _, ok_next F13 T, PySem.W.mg_of X G a13, k13, F13.binds (ps := ["_law_pen_here"]) fun _ _ _ _ _ _ us hl => match us, hl with | [_], _ => rfl⟩
  have F14 := fun_mk (st := s_l_draw) l14 c14 k14
  have c_l_draw : Cal l.prog w K mg base 2 "_law_draw" ["_law_pen_here", "_law_under"] sp_draw := ⟨f14, _, ok_draw F14 T c_l_next, PySem.W.mg_of X G a14, k14, F14.binds (ps := ["_law_pen_here", "_law_under"]) fun _ _ _ _ _ _ us hl => match us, hl with | [_, _], _ => rfl⟩
  have mostW : ∃ t, mg "MOST_WORTHS" = some (.int 7 t) := ⟨_, PySem.W.mg_of X G m3⟩
  have F15 := fun_mk (st := s_check_worths) l15 c15 k15
  have c_check_worths : CalX l.prog w K mg base 4 "_check_worths" ["olds", "news"] (sp_checkW K IW) := ⟨f15, _, ok_check_worths F15 T X_IW mostW c_are_worths, PySem.W.mg_of X G a15, k15, F15.binds (ps := ["olds", "news"]) fun _ _ _ _ _ _ us hl => match us, hl with | [_, _], _ => rfl⟩
  have F16 := fun_mk (st := s_check_barriers) l16 c16 k16
  have c_check_barriers : CalX l.prog w K mg base 1 "_check_barriers" ["many", "barriers"] (sp_checkB K IB) := ⟨f16, _, ok_check_barriers F16 T X_IB, PySem.W.mg_of X G a16, k16, F16.binds (ps := ["many", "barriers"]) fun _ _ _ _ _ _ us hl => match us, hl with | [_, _], _ => rfl⟩
  have F17 := fun_mk (st := s_with_barriers) l17 c17 k17
  have c_with_barriers : Cal l.prog w K mg base 1 "_with_barriers" ["writes", "barriers"] sp_withB := ⟨f17, _, ok_with_barriers F17 T, PySem.W.mg_of X G a17, k17, F17.binds (ps := ["writes", "barriers"]) fun _ _ _ _ _ _ us hl => match us, hl with | [_, _], _ => rfl⟩
  have F18 := fun_mk (st := s_mixed) l18 c18 k18
  have c_mixed : Cal l.prog w K mg base 1 "_mixed" ["olds", "news", "first", "while_so"] sp_mixed := ⟨f18, _, ok_mixed F18 T t_zo, PySem.W.mg_of X G a18, k18, F18.binds (ps := ["olds", "news", "first", "while_so"]) fun _ _ _ _ _ _ us hl => match us, hl with | [_, _, _, _], _ => rfl⟩
  have c_mixed0 : Cal l.prog w K mg base 1 "_mixed" ["olds", "news", "first", "while_so"] sp_mixed0 := ⟨f18, _, ok_mixed0 F18 T t_zo, PySem.W.mg_of X G a18, k18, F18.binds (ps := ["olds", "news", "first", "while_so"]) fun _ _ _ _ _ _ us hl => match us, hl with | [_, _, _, _], _ => rfl⟩
  have F19 := fun_mk (st := s_unlike) l19 c19 k19
  have c_unlike : Cal l.prog w K mg base 1 "_unlike" ["news", "first", "switch"] sp_unlike := ⟨f19, _, ok_unlike F19 T CK, PySem.W.mg_of X G a19, k19, F19.binds (ps := ["news", "first", "switch"]) fun _ _ _ _ _ _ us hl => match us, hl with | [_, _, _], _ => rfl⟩
  have F20 := fun_mk (st := s_straight) l20 c20 k20
  have c_straight : CalX l.prog w K mg base 8 "straight" ["olds", "news"] (sp_mk2 K IW) := ⟨f20, _, ok_straight F20 T TC M_Plan___init G_Plan b_Plan___init c_check_worths c_mixed0, PySem.W.mg_of X G a20, k20, F20.binds (ps := ["olds", "news"]) fun _ _ _ _ _ _ us hl => match us, hl with | [_, _], _ => rfl⟩
  have F21 := fun_mk (st := s_switched) l21 c21 k21
  have c_switched : CalX l.prog w K mg base 8 "switched" ["olds", "news", "barriers"] (sp_mk3 K IW IB (barQ 1)) := ⟨f21, _, ok_switched F21 T TC M_Plan___init G_Plan b_Plan___init c_check_worths c_check_barriers c_with_barriers c_unlike, PySem.W.mg_of X G a21, k21, F21.binds (ps := ["olds", "news", "barriers"]) fun _ _ _ _ _ _ us hl => match us, hl with | [_, _, _], _ => rfl⟩
  have F22 := fun_mk (st := s_logged) l22 c22 k22
  have c_logged : CalX l.prog w K mg base 8 "logged" ["olds", "news", "barriers"] (sp_mk3 K IW IB (barQ 3)) := ⟨f22, _, ok_logged F22 T TC M_Plan___init G_Plan b_Plan___init c_check_worths c_check_barriers c_with_barriers c_mixed c_unlike, PySem.W.mg_of X G a22, k22, F22.binds (ps := ["olds", "news", "barriers"]) fun _ _ _ _ _ _ us hl => match us, hl with | [_, _, _], _ => rfl⟩
  have F23 := fun_mk (st := s_log_rules) l23 c23 k23
  have c_log_rules : CalX l.prog w K mg base 5 "log_rules" ["olds", "news", "barrier"] (sp_mk3 K IW IB boolQ) := ⟨f23, _, ok_log_rules F23 T X_IB c_check_worths c_with_barriers, PySem.W.mg_of X G a23, k23, F23.binds (ps := ["olds", "news", "barrier"]) fun _ _ _ _ _ _ us hl => match us, hl with | [_, _, _], _ => rfl⟩
  have XE : ErrC K mg CF IC IP IW IB := ⟨PySem.W.mg_of X G gCF, PySem.W.mg_of X G gIC, PySem.W.mg_of X G gIP, PySem.W.mg_of X G gIW, PySem.W.mg_of X G gIB, m_IW, m_IB, I_IW, I_IB, any_no q_IW_IC (any_no q_IW_IP rfl), any_no q_IB_IC (any_no q_IB_IP rfl), ⟨is_own, q_IW_IB⟩, ⟨q_IB_IW, is_own⟩⟩
  have F24 := fun_mk (st := s_l_pair) l24 c24 k24
  have c_l_pair : Cal l.prog w K mg base 3 "_law_pair" ["_law_pen_here", "_law_most"] sp_pair := ⟨f24, _, ok_pair F24 T c_l_draw, PySem.W.mg_of X G a24, k24, F24.binds (ps := ["_law_pen_here", "_law_most"]) fun _ _ _ _ _ _ us hl => match us, hl with | [_, _], _ => rfl⟩
  have F25 := fun_mk (st := s_l_odd) l25 c25 k25
  have c_l_odd : Cal l.prog w K mg base 1 "_law_odd" [] (sp_odd K) := ⟨f25, _, ok_odd F25 T, PySem.W.mg_of X G a25, k25, F25.binds (ps := []) fun _ _ _ _ _ _ us hl => match us, hl with | [], _ => rfl⟩
  have F26 := fun_mk (st := s_l_error) l26 c26 k26
  have c_l_error : Cal l.prog w K mg base 9 "_law_error" ["_law_road", "_law_olds", "_law_news", "_law_chosen"] (sp_error K) := ⟨f26, _, ok_error F26 T XE c_straight c_switched c_logged c_log_rules, PySem.W.mg_of X G a26, k26, F26.binds (ps := ["_law_road", "_law_olds", "_law_news", "_law_chosen"]) fun _ _ _ _ _ _ us hl => match us, hl with | [_, _, _, _], _ => rfl⟩
  have F27 := fun_mk (st := s_l_barriers_right) l27 c27 k27
  have c_l_barriers_right : CalG l.prog w K mg base 10 "_law_barriers_right" ["_law_pen_here", "_law_olds", "_law_news"] sp_barR := ⟨f27, _, ok_barriers_right F27 T t_repr c_l_draw c_l_error, PySem.W.mg_of X G a27, k27, F27.binds (ps := ["_law_pen_here", "_law_olds", "_law_news"]) fun _ _ _ _ _ _ us hl => match us, hl with | [_, _, _], _ => rfl⟩
  exact ok_law (fun_mk (st := s_law) l28 c28 k28) T t_repr c_l_pen c_l_draw c_l_pair c_l_odd c_l_error c_l_barriers_right
theorem walk {l : PySem.W.OpenLaw} {q : Program} {loose : List Str} {XP : (Str → Option Value) → Heap → Prop} {YP : World → Heap → Prop} {d : DefRec} {K : Params → PySem.W.Frag} (hn : l.most = some 63) (hdf : d.params.defaults = [])
    (hY : ∀ (w : World) (h : Heap), YP w h → (K w.params).In h)
    (F : ∀ (w : World) (mg : Str → Option Value) (fa : Addr) (h : Heap), (K w.params).In h → h.Ns mainGlobals mg → mg d.name = some (.ref fa) →
      ∃ fd : FuncData, (∀ (s : Shared) (u : Value), BindsTo s fd ⟨[u], []⟩ [("_law_script", u)]) ∧ ∀ base : Heap, (K w.params).In base → base.Ns mainGlobals mg → FnG l.prog w (K w.params) mg base 11 fa fd ["_law_script"] (sp_law (K w.params))) :
    PySem.W.WalkO q loose XP YP l.row.toRowW d [] (fun f vs => PySem.call f vs) :=
  walkG (n := 63) (k := 11) (x := "_law_script") (sp := fun w => sp_law (K w.params)) hn (by decide) hdf ⟨rfl, by decide, by decide⟩ hY F fun _ _ a ns hl _ hS => ⟨a, ns, rfl, hS, fun _ => rfl⟩
end Af

open PySem PySem.W PyProof.Rows in
set_option maxRecDepth 100000 in
set_option maxHeartbeats 0 in
theorem PySem.Challenge.cw_afterfall_k48_errors_of_makers_holds : PySem.Challenge.rw_afterfall_k48_errors_of_makers.Holds := by
  w_on; o_law; k_head; (case hw => w_witness2)
  k_fill
  refine Af.walk (l := PySem.Challenge.rw_afterfall_k48_errors_of_makers) rfl rfl (fun w h Y => PySem.W.kIn_of Y) ?F
  case F =>
    intro w mg fa h KX G hmg
    refine' Af.all_mk KX G hmg ?a1 ?l1 ?c1 ?k1 ?a2 ?l2 ?c2 ?k2 ?a3 ?l3 ?c3 ?k3 ?a4 ?l4 ?c4 ?k4 ?a5 ?l5 ?c5 ?k5 ?a6 ?l6 ?c6 ?k6 ?a7 ?l7 ?c7 ?k7 ?a8 ?l8 ?c8 ?k8 ?a9 ?l9 ?c9 ?k9 ?a10 ?l10 ?c10 ?k10 ?a11 ?l11 ?c11 ?k11 ?a12 ?l12 ?c12 ?k12 ?a13 ?l13 ?c13 ?k13 ?a14 ?l14 ?c14 ?k14 ?a15 ?l15 ?c15 ?k15 ?a16 ?l16 ?c16 ?k16 ?a17 ?l17 ?c17 ?k17 ?a18 ?l18 ?c18 ?k18 ?a19 ?l19 ?c19 ?k19 ?a20 ?l20 ?c20 ?k20 ?a21 ?l21 ?c21 ?k21 ?a22 ?l22 ?c22 ?k22 ?a23 ?l23 ?c23 ?k23 ?a24 ?l24 ?c24 ?k24 ?a25 ?l25 ?c25 ?k25 ?a26 ?l26 ?c26 ?k26 ?a27 ?l27 ?c27 ?k27 ?a28 ?l28 ?c28 ?k28 ?aC ?a29 ?i29 ?l29 ?c29 ?k29 ?pg ?hd ?po ?sa ?mk ?kc ?ic ?tc ?ha ?hn ?htk ?hm ?n0 ?n1 ?n2 ?n3 ?n4 ?n5 ?gCF ?gIC ?gIP ?gIW ?gIB ?yb ?yd ?yt ?c1IB ?c2IB ?c1IC ?c2IC ?c1IP ?c2IP ?c1IW ?c2IW ?xxIW ?xkIW ?xbIW ?xtIW ?xdIW ?xcIW ?xmIW ?xgaIW ?xgtIW ?yeIW ?noIWIC ?neIWIC ?noIWIP ?neIWIP ?noIWIB ?neIWIB ?xxIB ?xkIB ?xbIB ?xtIB ?xdIB ?xcIB ?xmIB ?xgaIB ?xgtIB ?yeIB ?noIBIC ?neIBIC ?noIBIP ?neIBIP ?noIBIW ?neIBIW ?zr ?z0 ?z1 ?z2 ?z3 ?z4 ?z5 ?z6 ?z7 ?z8 ?z9 ?z10 ?zo ?m0 ?m1 ?m2 ?m3 ?u0 ?w0 ?x0 ?y0
    (case a1 => k_is)
    (case l1 => k_is)
    (case c1 => k_is)
    (case k1 => k_is)
    (case a2 => k_is)
    (case l2 => k_is)
    (case c2 => k_is)
    (case k2 => k_is)
    (case a3 => k_is)
    (case l3 => k_is)
    (case c3 => k_is)
    (case k3 => k_is)
    (case a4 => k_is)
    (case l4 => k_is)
    (case c4 => k_is)
    (case k4 => k_is)
    (case a5 => k_is)
    (case l5 => k_is)
    (case c5 => k_is)
    (case k5 => k_is)
    (case a6 => k_is)
    (case l6 => k_is)
    (case c6 => k_is)
    (case k6 => k_is)
    (case a7 => k_is)
    (case l7 => k_is)
    (case c7 => k_is)
    (case k7 => k_is)
    (case a8 => k_is)
    (case l8 => k_is)
    (case c8 => k_is)
    (case k8 => k_is)
    (case a9 => k_is)
    (case l9 => k_is)
    (case c9 => k_is)
    (case k9 => k_is)
    (case a10 => k_is)
    (case l10 => k_is)
    (case c10 => k_is)
    (case k10 => k_is)
    (case a11 => k_is)
    (case l11 => k_is)
    (case c11 => k_is)
    (case k11 => k_is)
    (case a12 => k_is)
    (case l12 => k_is)
    (case c12 => k_is)
    (case k12 => k_is)
    (case a13 => k_is)
    (case l13 => k_is)
    (case c13 => k_is)
    (case k13 => k_is)
    (case a14 => k_is)
    (case l14 => k_is)
    (case c14 => k_is)
    (case k14 => k_is)
    (case a15 => k_is)
    (case l15 => k_is)
    (case c15 => k_is)
    (case k15 => k_is)
    (case a16 => k_is)
    (case l16 => k_is)
    (case c16 => k_is)
    (case k16 => k_is)
    (case a17 => k_is)
    (case l17 => k_is)
    (case c17 => k_is)
    (case k17 => k_is)
    (case a18 => k_is)
    (case l18 => k_is)
    (case c18 => k_is)
    (case k18 => k_is)
    (case a19 => k_is)
    (case l19 => k_is)
    (case c19 => k_is)
    (case k19 => k_is)
    (case a20 => k_is)
    (case l20 => k_is)
    (case c20 => k_is)
    (case k20 => k_is)
    (case a21 => k_is)
    (case l21 => k_is)
    (case c21 => k_is)
    (case k21 => k_is)
    (case a22 => k_is)
    (case l22 => k_is)
    (case c22 => k_is)
    (case k22 => k_is)
    (case a23 => k_is)
    (case l23 => k_is)
    (case c23 => k_is)
    (case k23 => k_is)
    (case a24 => k_is)
    (case l24 => k_is)
    (case c24 => k_is)
    (case k24 => k_is)
    (case a25 => k_is)
    (case l25 => k_is)
    (case c25 => k_is)
    (case k25 => k_is)
    (case a26 => k_is)
    (case l26 => k_is)
    (case c26 => k_is)
    (case k26 => k_is)
    (case a27 => k_is)
    (case l27 => k_is)
    (case c27 => k_is)
    (case k27 => k_is)
    (case a28 => k_is)
    (case l28 => k_is)
    (case c28 => k_is)
    (case k28 => k_is)
    (case aC => k_is)
    (case a29 => k_is)
    (case i29 => k_is)
    (case l29 => k_is)
    (case c29 => k_is)
    (case k29 => k_is)
    (case pg => k_is)
    (case hd => k_is)
    (case po => k_is)
    (case sa => k_is)
    (case mk => k_is)
    (case kc => k_is)
    (case ic => k_is)
    (case tc => k_is)
    (case ha => k_is)
    (case hn => k_is)
    (case htk => k_is)
    (case hm => k_is)
    (case n0 => k_is)
    (case n1 => k_is)
    (case n2 => k_is)
    (case n3 => k_is)
    (case n4 => k_is)
    (case n5 => k_is)
    (case gCF => k_is)
    (case gIC => k_is)
    (case gIP => k_is)
    (case gIW => k_is)
    (case gIB => k_is)
    (case yb => k_is)
    (case yd => k_is)
    (case yt => k_is)
    (case c1IB => k_is)
    (case c2IB => k_is)
    (case c1IC => k_is)
    (case c2IC => k_is)
    (case c1IP => k_is)
    (case c2IP => k_is)
    (case c1IW => k_is)
    (case c2IW => k_is)
    (case xxIW => k_exc)
    (case xkIW => k_is)
    (case xbIW => k_is)
    (case xtIW => k_is)
    (case xdIW => k_is)
    (case xcIW => k_is)
    (case xmIW => k_is)
    (case xgaIW => k_is)
    (case xgtIW => k_is)
    (case yeIW => k_is)
    (case noIWIC => k_is)
    (case neIWIC => decide)
    (case noIWIP => k_is)
    (case neIWIP => decide)
    (case noIWIB => k_is)
    (case neIWIB => decide)
    (case xxIB => k_exc)
    (case xkIB => k_is)
    (case xbIB => k_is)
    (case xtIB => k_is)
    (case xdIB => k_is)
    (case xcIB => k_is)
    (case xmIB => k_is)
    (case xgaIB => k_is)
    (case xgtIB => k_is)
    (case yeIB => k_is)
    (case noIBIC => k_is)
    (case neIBIC => decide)
    (case noIBIP => k_is)
    (case neIBIP => decide)
    (case noIBIW => k_is)
    (case neIBIW => decide)
    (case zr => k_is)
    (case z0 => k_is)
    (case z1 => k_is)
    (case z2 => k_is)
    (case z3 => k_is)
    (case z4 => k_is)
    (case z5 => k_is)
    (case z6 => k_is)
    (case z7 => k_is)
    (case z8 => k_is)
    (case z9 => k_is)
    (case z10 => k_is)
    (case zo => k_is)
    (case m0 => k_is)
    (case m1 => k_is)
    (case m2 => k_is)
    (case m3 => k_is)
    (case u0 => k_is)
    (case w0 => k_is)
    (case x0 => decide)
    (case y0 => exact .cons ⟨_, rfl⟩ (.cons ⟨_, rfl⟩ (.cons ⟨_, rfl⟩ (.cons ⟨_, rfl⟩ (.cons ⟨_, rfl⟩ (.cons ⟨_, rfl⟩ (.cons ⟨_, rfl⟩ (.cons ⟨_, rfl⟩ .nil))))))))

