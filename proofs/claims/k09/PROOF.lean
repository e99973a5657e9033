import PyProof.Rows.All
import Wide.All
import OpenK.AllK
import Wide.FinOn
import HandS.ForMost
import HandS.ForExc
import HandS.TupAny
import HandS.TupMul
import HandS.Style
import HandS.OwnEq
import HandS.IsInst
import HandS.Zip
import KE.DataFind
import PyProof.ReprRoads
import PyProof.ReprLen
import HandS.ExcIs
import HandS.ExcValue
import HandS.Property
import HandS.DictComp
import KE.KExcSuper
import HandS.ExcInit
import HandS.Nested
import HandS.Text
import HandS.FStr
import HandS.Star
import HandS.Walk
import PyProof.Rows.StrItems
import KE.KExcIs
import HandS.ExcField
import HandS.Iter
import HandS.Conv
import PyProof.StrLawsRepr
import PyProof.StrBlock2
import PyProof.Rows.StrMul
import KE.KxText
import PySem.Challenge.RW_afterfall_k09_texts_that_are_none
set_option Elab.async false
set_option linter.all false
set_option maxRecDepth 100000
namespace Af
open PySem L2

/-! heaps -/
theorem same_new {H : Hp} {p : Addr} {o : HO} (h : H p = none) : Same H (upd H p o) := fun b u e => by
  rw [upd_ne (ne_of_none e h)]
  exact e
theorem nofree {H : Hp} {p q : Addr} {o : HO} (h : H p = some o) (h' : H q = none) : q ≠ p := fun e => by
  rw [e, h] at h'
  cases h'

/-- a new object o -/
def New (o : HO) (H : Hp) (Q : VK) : Prop := ∀ (p : Addr) (H' : Hp), H p = none → Same H H' → H' p = some o → Q (.ref p) H'
theorem New.mk {o : HO} {H : Hp} {Q : VK} (h : New o H Q) : ∀ p, H p = none → Q (.ref p) (upd H p o) := fun p hp => h p _ hp (same_new hp) upd_same
/-- a tuple of xs, new or not -/
def NewT (xs : List V) (H : Hp) (Q : VK) : Prop := ∀ (p : Addr) (H' : Hp), Same H H' → H' p = some (.tup xs) → Q (.ref p) H'

theorem pe_imp {X : Cx} {e : Expr} {t t' : TE} (h : PE X e t) (i : ∀ σ H Q, t' σ H Q → t σ H Q) : PE X e t' := ⟨fun pins s σ H Q I q => h.run pins s σ H Q I (i σ H Q q)⟩
theorem op_imp {X : Cx} {f : Value → Value → Sem Value} {r r' : R2} (h : OpR X f r) (i : ∀ x y H Q, r' x y H Q → r x y H Q) : OpR X f r' :=
  fun pins s σ H x y v u Q I rx ry q => h pins s σ H x y v u Q I rx ry (i x y H Q q)
theorem call_imp {X : Cx} {f : Value} {r r' : List V → Hp → VK → Prop} (h : CallR X f r) (i : ∀ xs H Q, r' xs H Q → r xs H Q) : CallR X f r' :=
  fun pins s σ H xs us Q I rs q => h pins s σ H xs us Q I rs (i xs H Q q)

/-! displays -/
def tTup' (t : TA) : TE := fun σ H Q => t σ H fun xs H1 => xs.length ≤ sizeLine ∧ New (.tup xs) H1 Q
def tLst' (t : TA) : TE := fun σ H Q => t σ H fun xs H1 => xs.length ≤ sizeLine ∧ New (.lst xs) H1 Q
section
variable {X : Cx} {e : Expr} {es : List Expr} {te : TE} {t : TA} {pos : Pos}
theorem pe_tup' {x1 : Nat} (h : PA X es t) : PE X (.Tuple es x1 pos) (tTup' t) := ⟨fun pins s σ H Q I hq =>
  wpAny_Tuple_spliced (thn (h.run pos pins s σ H _ I hq) fun us s1 z => by
    obtain ⟨xs, H1, I1, r, z, q⟩ := z
    refine ⟨by rw [← r.length]; exact z, ?_⟩
    have hf := I1.fresh
    exact ⟨.ref s1.heap.objs.size, upd H1 s1.heap.objs.size (.tup xs),
      I1.laid (t' := s1.toks) (fun b u e => Heap.get?_push_of_some _ e) (Nat.le_refl _) ⟨z, us, r, ⟨_, Heap.get?_push_size _ rfl, rfl, _, rfl⟩⟩, rfl, q.mk _ hf⟩)⟩
theorem pe_lst' (h : PA X es t) : PE X (.List es pos) (tLst' t) := ⟨fun pins s σ H Q I hq =>
  wpAny_List_spliced (thn (h.run pos pins s σ H _ I hq) fun us s1 z => by
    obtain ⟨xs, H1, I1, r, z, q⟩ := z
    refine ⟨by rw [← r.length]; exact z, ?_⟩
    have hf := I1.fresh
    exact ⟨.ref s1.heap.objs.size, upd H1 s1.heap.objs.size (.lst xs),
      I1.laid (t' := s1.toks) (fun b u e => Heap.get?_push_of_some _ e) (Nat.le_refl _) ⟨z, us, 0, r, Heap.get?_push_size _ rfl⟩, rfl, q.mk _ hf⟩)⟩

/-! lists and tuples -/
def rCat' : R2 := fun x y H Q => ∃ l b xs zs, x = .ref l ∧ y = .ref b ∧ H l = some (.lst xs) ∧ H b = some (.lst zs) ∧ xs.length + zs.length ≤ sizeLine ∧ New (.lst (xs ++ zs)) H Q
theorem op_cat' : OpR X (binaryOp .Add) rCat' := op_imp op_cat fun x y H Q h => by
  obtain ⟨l, b, xs, zs, h1, h2, h3, h4, h5, q⟩ := h
  exact ⟨l, b, xs, zs, h1, h2, h3, h4, h5, q.mk⟩
def rCatT' : R2 := fun x y H Q => ∃ a b xs ys, x = .ref a ∧ y = .ref b ∧ H a = some (.tup xs) ∧ H b = some (.tup ys) ∧ xs.length + ys.length ≤ sizeLine ∧ NewT (xs ++ ys) H Q
theorem op_catT' : OpR X (binaryOp .Add) rCatT' := op_imp op_catA fun x y H Q h => by
  obtain ⟨a, b, xs, ys, h1, h2, h3, h4, h5, q⟩ := h
  refine ⟨a, b, xs, ys, h1, h2, SqT.of h3, SqT.of h4, h5, fun e => ?_, fun _ e => ?_, fun _ _ p hp => q p _ (same_new hp) upd_same⟩
  · subst e
    exact q b H (Same.refl H) h4
  · subst e
    exact q a H (Same.refl H) (by rw [List.append_nil]; exact h3)
def rRep' : R2 := fun x y H Q => ∃ l k xs, x = .ref l ∧ y = .int k ∧ H l = some (.lst xs) ∧ 0 ≤ k ∧ k ≤ 1000 ∧ xs.length * k.toNat ≤ sizeLine ∧ New (.lst (List.replicate k.toNat xs).flatten) H Q
theorem op_rep' : OpR X (binaryOp .Mult) rRep' := op_imp op_rep fun x y H Q h => by
  obtain ⟨l, k, xs, h1, h2, h3, h4, h5, h6, q⟩ := h
  exact ⟨l, k, xs, h1, h2, h3, by omega, by omega, h6, q.mk⟩
theorem sl_imp {r r' : V → Option Int → Option Int → Hp → VK → Prop} (h : SlR X r) (i : ∀ x lo hi H Q, r' x lo hi H Q → r x lo hi H Q) : SlR X r' :=
  fun pins s σ H x v vl vu lo hi sl Q I rx hs pl pu q => h pins s σ H x v vl vu lo hi sl Q I rx hs pl pu (i x lo hi H Q q)
def rSlL' : V → Option Int → Option Int → Hp → VK → Prop := fun x lo hi H Q => ∃ a xs, x = .ref a ∧ H a = some (.lst xs) ∧ New (.lst (cutV xs lo hi)) H Q
theorem sl_list' : SlR X rSlL' := sl_imp sl_list fun x lo hi H Q h => by
  obtain ⟨a, xs, h1, h2, q⟩ := h
  exact ⟨a, xs, h1, SqL.of h2, q.mk⟩
theorem cut_all {xs : List V} {lo hi : Option Int} (h : HT.sIx xs.length 0 lo = 0 ∧ HT.sIx xs.length xs.length hi = xs.length) : cutV xs lo hi = xs := by
  unfold cutV
  rw [h.1, h.2]
  simp
def rSlT' : V → Option Int → Option Int → Hp → VK → Prop := fun x lo hi H Q => ∃ a xs, x = .ref a ∧ H a = some (.tup xs) ∧ NewT (cutV xs lo hi) H Q
theorem sl_tup' : SlR X rSlT' := sl_imp sl_tupA fun x lo hi H Q h => by
  obtain ⟨a, xs, h1, h2, q⟩ := h
  refine ⟨a, xs, h1, SqT.of h2, fun w => ?_, fun _ p hp => q p _ (same_new hp) upd_same⟩
  exact q a H (Same.refl H) (by rw [cut_all w]; exact h2)
def Sq (H : Hp) (p : Addr) (ys : List V) : Prop := H p = some (.lst ys) ∨ H p = some (.tup ys)
theorem Sq.or {K : PySem.W.Frag} {H : Hp} {p : Addr} {ys : List V} (h : Sq H p ys) : SqL K H p ys ∨ SqT K H p ys := h.elim (fun h => .inl (SqL.of h)) fun h => .inr (SqT.of h)
def rList' : List V → Hp → VK → Prop := fun xs H Q => ∃ p ys, xs = [.ref p] ∧ Sq H p ys ∧ New (.lst ys) H Q
theorem call_list' : CallR X (.type "list") rList' := call_imp call_list_of fun xs H Q h => by
  obtain ⟨p, ys, h1, h2, q⟩ := h
  exact ⟨p, ys, h1, h2.or, q.mk⟩
def rTuple' : List V → Hp → VK → Prop := fun xs H Q => ∃ p ys, xs = [.ref p] ∧ Sq H p ys ∧ NewT ys H Q
theorem call_tuple' : CallR X (.type "tuple") rTuple' := call_imp call_tuple_of fun xs H Q h => by
  obtain ⟨p, ys, h1, h2, q⟩ := h
  rcases h2 with h2 | h2
  · exact ⟨p, ys, h1, .inl ⟨SqL.of h2, fun l hl => q l _ (same_new hl) upd_same⟩⟩
  · exact ⟨p, ys, h1, .inr ⟨SqT.of h2, q p H (Same.refl H) h2⟩⟩
def rLen' : List V → Hp → VK → Prop := fun xs H Q => ∃ p ys, xs = [.ref p] ∧ Sq H p ys ∧ Q (.int ys.length) H
theorem call_len' : CallR X (.builtin "len") rLen' := call_imp call_len_seq fun xs H Q h => by
  obtain ⟨p, ys, h1, h2, q⟩ := h
  exact ⟨p, ys, h1, h2.or, q⟩
def rLenK (K : PySem.W.Frag) : List V → Hp → VK → Prop := fun xs H Q => ∃ p ys, xs = [.ref p] ∧ (SqL K H p ys ∨ SqT K H p ys) ∧ Q (.int ys.length) H
theorem call_lenK : CallR X (.builtin "len") (rLenK X.K) := call_len_seq
theorem ix_imp {r r' : R2} (h : IxR X r) (i : ∀ x y H Q, r' x y H Q → r x y H Q) : IxR X r' :=
  fun value slice pins s σ H x y v u Q I rx ry q hs => h value slice pins s σ H x y v u Q I rx ry (i x y H Q q) hs
def rIx' : R2 := fun x y H Q => ∃ p xs i v, x = .ref p ∧ y = .int i ∧ Sq H p xs ∧ atI xs i = some v ∧ Q v H
theorem ix_seq' : IxR X rIx' := ix_imp (ix_list.or ix_tup) fun x y H Q h => by
  obtain ⟨p, xs, i, v, h1, h2, h3, h4, q⟩ := h
  rcases h3 with h3 | h3
  · exact .inl ⟨p, xs, i, v, h1, h2, SqL.of h3, h4, q⟩
  · exact .inr ⟨p, xs, i, v, h1, h2, SqT.of h3, h4, q⟩
/-- xs[::-1] -/
def tRev' (te : TE) : TE := fun σ H Q => te σ H fun x H1 => ∃ a xs, x = .ref a ∧ H1 a = some (.lst xs) ∧ New (.lst xs.reverse) H1 Q
end

/-! a def of the text, called -/
structure Cal (P : Program) (w : World) (K : PySem.W.Frag) (mg : Str → Option Value) (base : Heap) (k : Nat) (x : Str) (ps : List Str) (sp : Sp) : Prop where
  ex : ∃ (f : Addr) (fd : FuncData), FnOk P w K mg base CX0 k f fd ps sp ∧ mg x = some (.ref f) ∧ PySem.W.keepIn K (.ref f) = true ∧ Binds K fd ps []
def tCal (sp : Sp) (t : TA) : TE := fun σ H Q => t σ H fun vs H1 => sp vs H1 Q E0
section
variable {X : Cx} {k j : Nat} {x : Str} {ps : List Str} {sp : Sp} {e : Expr} {es : List Expr} {t : TA} {p pos : Pos}
theorem pe_cal (c : Cal X.prog X.w X.K X.mg X.base k x ps sp) (hr : Room j X.A) (ha : PA X (e :: es) t) (hkj : k ≤ j := by decide) (hg : Gl X x := by rfl) (hdb : (x == ("__debug__" : Str)) = false := by decide)
    (he : starEach (e :: es) X.env = (false, eval e X.env) :: starEach es X.env := by rfl) (hpl : (backTo pos (starEach es X.env)).any (·.1) = false := by rfl) :
    PE X (.Call (.Name x p) (e :: es) [] pos) (tCal sp t) := by
  obtain ⟨f, fd, G, m, kp, b⟩ := c.ex
  have := pe_call (pos := pos) (p := p) G (hr.mono hkj) hg m kp b .nil pass0 ha hdb he hpl
  refine ⟨fun pins s σ H Q I h => this.run pins s σ H Q I ?_⟩
  have e1 : tCal sp t = tCall sp [] E0 t := by
    funext σ H Q
    unfold tCal tCall
    simp only [List.append_nil]
  rw [← e1]
  exact h
theorem pe_cal0 (c : Cal X.prog X.w X.K X.mg X.base k x ps sp) (hr : Room j X.A) (hkj : k ≤ j := by decide) (hg : Gl X x := by rfl) (hdb : (x == ("__debug__" : Str)) = false := by decide) :
    PE X (.Call (.Name x p) [] [] pos) (tCal sp tNil) := by
  obtain ⟨f, fd, G, m, kp, b⟩ := c.ex
  exact pe_call0 (pos := pos) (p := p) G (hr.mono hkj) hg m kp b .nil pass0 hdb
end

/-! ways that meet again behind a statement: J tells where -/
def tCut (t : TS) : TS := fun D σ H => ∃ J : L2.St → Hp → Prop, t { D with nx := J } σ H ∧ ∀ σ' H', J σ' H' → D.nx σ' H'
theorem ps_cut {X : Cx} {st : Stmt} {t : TS} (h : PS X st t) : PS X st (tCut t) := ⟨fun pins s σ H D I q => by
  obtain ⟨J, q1, q2⟩ := q
  refine thn (h.run pins s σ H { D with nx := J } I q1) fun f s1 z => ?_
  cases f with
  | next =>
    obtain ⟨σ', H', I', z⟩ := z
    exact ⟨σ', H', I', q2 σ' H' z⟩
  | ret v => exact z
  | brk => exact z
  | cont => exact z⟩

/-! the pen: its list, its cells' list, the cells; how often it was asked (at most m), what is left -/
structure Pn where
  p : Addr
  c : Addr
  ns : List Int
structure Pen (q : Pn) (m : Nat) (H : Hp) : Prop where
  ex : ∃ (i n : Int), H q.p = some (.lst [.ref q.c, .int i, .int n]) ∧ H q.c = some (.lst (q.ns.map V.int)) ∧ q.c ≠ q.p ∧ 0 ≤ i ∧ i ≤ (m : Int) ∧ 0 ≤ n
theorem Pen.same {q : Pn} {m : Nat} {H H' : Hp} (h : Pen q m H) (s : Same H H') : Pen q m H' := by
  obtain ⟨i, n, h1, h2, h3⟩ := h.ex
  exact ⟨i, n, s _ _ h1, s _ _ h2, h3⟩
theorem Pen.mono {q : Pn} {m m' : Nat} {H : Hp} (h : Pen q m H) (l : m ≤ m') : Pen q m' H := by
  obtain ⟨i, n, h1, h2, h3, h4, h5, h6⟩ := h.ex
  exact ⟨i, n, h1, h2, h3, h4, by omega, h6⟩
theorem Pen.lst {q : Pn} {m : Nat} {H : Hp} (h : Pen q m H) : ∃ l, H q.p = some (.lst l) := by
  obtain ⟨i, n, h1, _⟩ := h.ex
  exact ⟨_, h1⟩
theorem Pen.free {q : Pn} {m : Nat} {H : Hp} {a : Addr} (h : Pen q m H) (e : H a = none) : a ≠ q.p ∧ a ≠ q.c := by
  obtain ⟨i, n, h1, h2, _⟩ := h.ex
  refine ⟨fun z => ?_, fun z => ?_⟩
  · rw [z, h1] at e
    cases e
  · rw [z, h2] at e
    cases e
/-- an object that is not the pen's is changed -/
theorem Pen.upd {q : Pn} {m : Nat} {H : Hp} {a : Addr} {o : HO} (h : Pen q m H) (n : a ≠ q.p ∧ a ≠ q.c) : Pen q m (upd H a o) := by
  obtain ⟨i, r, h1, h2, h3⟩ := h.ex
  exact ⟨i, r, by rw [upd_ne n.1.symm]; exact h1, by rw [upd_ne n.2.symm]; exact h2, h3⟩
/-- what stands but for the list at p stands -/
def Kp (p : Addr) (H H' : Hp) : Prop := ∀ a o, (a ≠ p ∨ ∀ l, o ≠ HO.lst l) → H a = some o → H' a = some o
theorem Kp.refl {p : Addr} {H : Hp} : Kp p H H := fun _ _ _ h => h
theorem Kp.trans {p : Addr} {H H1 H2 : Hp} (a : Kp p H H1) (b : Kp p H1 H2) : Kp p H H2 := fun c o n h => b c o n (a c o n h)
theorem Kp.same {p : Addr} {H H' : Hp} (s : Same H H') : Kp p H H' := fun a o _ h => s a o h
theorem Kp.tup {p a : Addr} {H H' : Hp} {xs : List V} (k : Kp p H H') (h : H a = some (.tup xs)) : H' a = some (.tup xs) := k a _ (.inr fun l z => by cases z) h
theorem Kp.lst {p a : Addr} {H H' : Hp} {xs : List V} (k : Kp p H H') (n : a ≠ p) (h : H a = some (.lst xs)) : H' a = some (.lst xs) := k a _ (.inl n) h
theorem Kp.ins {p a C dx : Addr} {H H' : Hp} {fs : List (Str × V)} (k : Kp p H H') (h : H a = some (.ins C dx fs)) : H' a = some (.ins C dx fs) := k a _ (.inr fun l z => by cases z) h
/-- what a call with the pen leaves: all but the pen as it was, a pen again -/
structure Go (q : Pn) (m : Nat) (H H' : Hp) : Prop where
  kp : Kp q.p H H'
  pen : Pen q m H'
theorem Go.refl {q : Pn} {m : Nat} {H : Hp} (h : Pen q m H) : Go q m H H := ⟨Kp.refl, h⟩
theorem Go.trans {q : Pn} {m m' : Nat} {H H1 H2 : Hp} (a : Go q m H H1) (b : Go q m' H1 H2) : Go q m' H H2 := ⟨a.kp.trans b.kp, b.pen⟩
theorem Go.mono {q : Pn} {m m' : Nat} {H H' : Hp} (a : Go q m H H') (l : m ≤ m') : Go q m' H H' := ⟨a.kp, a.pen.mono l⟩
theorem Go.same {q : Pn} {m : Nat} {H H1 H2 : Hp} (a : Go q m H H1) (s : Same H1 H2) : Go q m H H2 := ⟨a.kp.trans (Kp.same s), a.pen.same s⟩
theorem Go.of {q : Pn} {m : Nat} {H H1 : Hp} (h : Pen q m H) (s : Same H H1) : Go q m H H1 := ⟨Kp.same s, h.same s⟩
/-- the pen's own list is stored into -/
theorem Go.at_ {q : Pn} {m m' : Nat} {H : Hp} {l : List V} (h : Pen q m H) (e : Pen q m' (L2.upd H q.p (.lst l))) : Go q m' H (L2.upd H q.p (.lst l)) := ⟨fun a o n k => by
  by_cases z : a = q.p
  · obtain ⟨l', e'⟩ := h.lst
    rcases n with n | n
    · exact absurd z n
    · rw [z, e'] at k
      exact absurd (Option.some.inj k).symm (n l')
  · rw [upd_ne z]
    exact k, e⟩
/-- a list that is new since H is changed -/
theorem Go.mut {q : Pn} {m : Nat} {H H' : Hp} {D : Addr} {o : HO} (h : Pen q m H) (hD : H D = none) {m' : Nat} (g : Go q m' H H') : Go q m' H (L2.upd H' D o) :=
  ⟨fun a u n e => by rw [upd_ne (ne_of_none e hD)]; exact g.kp a u n e, g.pen.upd (h.free hD)⟩
theorem Go.none {q : Pn} {m m' : Nat} {H H' : Hp} {a : Addr} (g : Go q m H H') (h : Pen q m' H) (e : H' a = none) : H a = none := by
  have z := (g.pen.free e).1
  cases k : H a with
  | none => rfl
  | some o =>
    rw [g.kp a o (.inl z) k] at e
    cases e
theorem sz {n : Nat} (h : n ≤ 100000) : n ≤ sizeLine := Nat.le_trans h (by decide)
theorem szr {n : Nat} (h : Nat.ble n 100000 = true := by rfl) : n ≤ sizeLine := sz (Nat.le_of_ble_eq_true h)
theorem szl {n : Nat} (h : n < 100000) : n < sizeLine := Nat.lt_of_lt_of_le h (by decide)

/-! data -/
def ivs (ns : List Int) : List V := ns.map V.int
def dvs (ns : List Int) : List PyData := ns.map PyData.int
theorem dp_ints {K : PySem.W.Frag} {H : Hp} : ∀ ns : List Int, DpAll K H (ivs ns) (dvs ns)
  | [] => .nil
  | n :: ns => .cons (.int n) (dp_ints ns)
theorem lay_ints : ∀ ns : List Int, PyData.canLayAll0 (dvs ns) = true
  | [] => rfl
  | n :: ns => by
    show (PyData.canLay0 (.int n) && PyData.canLayAll0 (dvs ns)) = true
    rw [lay_ints ns]
    rfl
theorem deep_ints : ∀ ns : List Int, PyData.depthAll (dvs ns) = 0
  | [] => rfl
  | n :: ns => by
    show max (PyData.depth (.int n)) (PyData.depthAll (dvs ns)) = 0
    rw [deep_ints ns]
    rfl
theorem eqv_nil (ns : List Int) : PyData.eqv (.list (dvs ns)) (.list []) = ns.isEmpty := by
  cases ns <;> rfl
def rNeNil : R2 := fun x y H Q => ∃ a b ns, x = .ref a ∧ y = .ref b ∧ H a = some (.lst (ivs ns)) ∧ H b = some (.lst []) ∧ Q (.bl (!ns.isEmpty)) H
theorem op_neNil {X : Cx} (hu : X.A.units + 64 < cLine) : OpR X (compareOp .NotEq) rNeNil := op_imp (op_neD hu) fun x y H Q h => by
  obtain ⟨a, b, ns, rfl, rfl, h1, h2, q⟩ := h
  refine ⟨.list (dvs ns), .list [], .lst (SqL.of h1) (dp_ints ns), .lst (SqL.of h2) .nil, ?_, by decide, ?_⟩
  · show (PyData.canLayAll0 (dvs ns) && decide (PyData.depthAll (dvs ns) + 1 ≤ 64)) = true
    rw [lay_ints, deep_ints]
    rfl
  · rw [eqv_nil]
    exact q
end Af

set_option Elab.async false
set_option linter.all false
set_option maxRecDepth 100000
namespace Af
open PySem L2
def top (i : Nat) : Stmt := PySem.Challenge.pw_afterfall_k09_texts_that_are_none.main.body.getD i (.Pass ⟨0, 0, 0, 0⟩)
/-- names of the built-ins that the text does not hide -/
structure Txt (mg : Str → Option Value) : Prop where
  len : mg "len" = none
  int : mg "int" = none
  list : mg "list" = none
  tuple : mg "tuple" = none
  range : mg "range" = none
  min : mg "min" = none
  all : mg "all" = none
  enumerate : mg "enumerate" = none
  zip : mg "zip" = none
  isinstance : mg "isinstance" = none
  bool : mg "bool" = none
section
variable {P : Program} {w : World} {K : PySem.W.Frag} {mg : Str → Option Value} {base : Heap}
theorem mod_in {i n : Int} (h : 0 < n) : 0 ≤ i % n ∧ i % n < n := ⟨Int.emod_nonneg i (by omega), Int.emod_lt_of_pos i h⟩
theorem at_mod {ns : List Int} {i : Int} (h : ns ≠ []) : ∃ z, atI (ivs ns) (i % ((ivs ns).length : Int)) = some (.int z) := by
  have hl : 0 < (ivs ns).length := by
    unfold ivs
    rw [List.length_map]
    exact List.length_pos_iff.mpr h
  obtain ⟨a, b⟩ := mod_in (i := i) (n := ((ivs ns).length : Int)) (by omega)
  obtain ⟨j, hj⟩ := Int.eq_ofNat_of_zero_le a
  rw [hj] at b ⊢
  have hj' : j < ns.length := by
    unfold ivs at b
    rw [List.length_map] at b
    omega
  refine ⟨ns[j], atI_nat ?_⟩
  unfold ivs
  rw [List.getElem?_map, List.getElem?_eq_getElem hj']
  rfl
end
end Af

set_option Elab.async false
set_option linter.all false
set_option maxRecDepth 100000
namespace Af
open PySem L2
theorem same_mut {H H' : Hp} {D : Addr} {o : HO} (s : Same H H') (h : H D = none) : Same H (upd H' D o) := fun a u e => by
  rw [upd_ne (ne_of_none e h)]
  exact s a u e
/-! data: a step, a plan's parts -/
abbrev Stp := Option (Int × List Int)
def StepV (H : Hp) : V → Stp → Prop
  | x, none => x = .non
  | x, some (f, ws) => ∃ a b, x = .ref a ∧ H a = some (.tup [.int f, .ref b]) ∧ H b = some (.tup (ivs ws))
structure Pl where
  cs : List Int
  w : Int
  sts : List Stp
structure PlanV (p : Addr) (H : Hp) (v : V) (pl : Pl) : Prop where
  ex : ∃ a ca sa xs, v = .ref a ∧ H a = some (.tup [.ref ca, .int pl.w, .ref sa]) ∧ H ca = some (.tup (ivs pl.cs)) ∧ sa ≠ p ∧ H sa = some (.lst xs) ∧ Paired (StepV H) xs pl.sts
theorem StepV.kp {p : Addr} {H H' : Hp} (k : Kp p H H') : ∀ {x : V} {st : Stp}, StepV H x st → StepV H' x st
  | x, none, h => h
  | x, some (f, ws), h => by
    obtain ⟨a, b, e, h1, h2⟩ := h
    exact ⟨a, b, e, k.tup h1, k.tup h2⟩
theorem steps_kp {p : Addr} {H H' : Hp} {xs : List V} {sts : List Stp} (k : Kp p H H') (h : Paired (StepV H) xs sts) : Paired (StepV H') xs sts := L2.Paired.mapP h fun _ _ z => z.kp k
theorem steps_same {H H' : Hp} {xs : List V} {sts : List Stp} (k : Same H H') (h : Paired (StepV H) xs sts) : Paired (StepV H') xs sts := steps_kp (p := 0) (Kp.same k) h
theorem PlanV.kp {p : Addr} {H H' : Hp} {v : V} {pl : Pl} (k : Kp p H H') (h : PlanV p H v pl) : PlanV p H' v pl := by
  obtain ⟨a, ca, sa, xs, e, h1, h2, n, h3, h4⟩ := h.ex
  exact ⟨a, ca, sa, xs, e, k.tup h1, k.tup h2, n, k.lst n h3, steps_kp k h4⟩
theorem PlanV.same {p : Addr} {H H' : Hp} {v : V} {pl : Pl} (k : Same H H') (h : PlanV p H v pl) : PlanV p H' v pl := h.kp (Kp.same k)
theorem paired_app {α β : Type} {F : α → β → Prop} : ∀ {a c : List α} {b d : List β}, Paired F a b → Paired F c d → Paired F (a ++ c) (b ++ d)
  | _, _, _, _, .nil, h => h
  | _, _, _, _, .cons r t, h => .cons r (paired_app t h)
theorem paired_take {α β : Type} {F : α → β → Prop} : ∀ {a : List α} {b : List β} (n : Nat), Paired F a b → Paired F (a.take n) (b.take n)
  | _, _, 0, _ => by
    rw [List.take_zero, List.take_zero]
    exact .nil
  | _, _, n + 1, .nil => .nil
  | _, _, n + 1, .cons r t => .cons r (paired_take n t)
theorem paired_drop {α β : Type} {F : α → β → Prop} : ∀ {a : List α} {b : List β} (n : Nat), Paired F a b → Paired F (a.drop n) (b.drop n)
  | _, _, 0, h => h
  | _, _, n + 1, .nil => .nil
  | _, _, n + 1, .cons r t => paired_drop n t
theorem paired_rev {α β : Type} {F : α → β → Prop} : ∀ {a : List α} {b : List β}, Paired F a b → Paired F a.reverse b.reverse
  | _, _, .nil => .nil
  | _, _, .cons r t => by
    rw [List.reverse_cons, List.reverse_cons]
    exact paired_app (paired_rev t) (.cons r .nil)
theorem paired_get {α β : Type} {F : α → β → Prop} : ∀ {a : List α} {b : List β} {i : Nat} {x : α}, Paired F a b → a[i]? = some x → ∃ y, b[i]? = some y ∧ F x y
  | _, _, _, _, .nil, e => by simp at e
  | _, _, 0, x, .cons r _, e => by
    simp at e
    subst e
    exact ⟨_, rfl, r⟩
  | _, _, i + 1, x, .cons _ t, e => by
    obtain ⟨y, h1, h2⟩ := paired_get (i := i) (x := x) t (by simpa using e)
    exact ⟨y, by simpa using h1, h2⟩
theorem paired_len {α β : Type} {F : α → β → Prop} : ∀ {a : List α} {b : List β}, Paired F a b → a.length = b.length
  | _, _, .nil => rfl
  | _, _, .cons _ t => by
    rw [List.length_cons, List.length_cons, paired_len t]
theorem ivs_len (ns : List Int) : (ivs ns).length = ns.length := List.length_map ..
theorem ivs_get {ns : List Int} {i : Nat} (h : i < ns.length) : (ivs ns)[i]? = some (.int ns[i]) := by
  unfold ivs
  rw [List.getElem?_map, List.getElem?_eq_getElem h]
  rfl
/-- a step of a store of n cells -/
def OkS (n : Nat) : Stp → Prop
  | none => True
  | some (f, ws) => 0 ≤ f ∧ ws ≠ [] ∧ f + (ws.length : Int) ≤ (n : Int) ∧ ∀ z ∈ ws, 0 ≤ z ∧ z < 8
def stl : Stp → Nat
  | none => 0
  | some (_, ws) => ws.length
def tot (l : List Stp) : Nat := (l.map stl).sum
theorem tot_nil : tot [] = 0 := rfl
theorem tot_cons (a : Stp) (b : List Stp) : tot (a :: b) = stl a + tot b := by
  unfold tot
  rw [List.map_cons, List.sum_cons]
theorem tot_app (a b : List Stp) : tot (a ++ b) = tot a + tot b := by
  unfold tot
  rw [List.map_append, List.sum_append]
theorem tot_one (a : Stp) : tot [a] = stl a := by
  rw [tot_cons, tot_nil, Nat.add_zero]
theorem tot_take_drop (l : List Stp) (n : Nat) : tot (l.take n) + tot (l.drop n) = tot l := by
  rw [← tot_app, List.take_append_drop]
theorem tot_rev (l : List Stp) : tot l.reverse = tot l := by
  induction l with
  | nil => rfl
  | cons a l ih => rw [List.reverse_cons, tot_app, tot_one, tot_cons, ih, Nat.add_comm]
/-- a plan that the program takes, with room to spare for s steps and t cells of writes -/
structure Good (s t : Nat) (pl : Pl) : Prop where
  c1 : 1 ≤ pl.cs.length
  c24 : pl.cs.length ≤ 24
  cb : ∀ z ∈ pl.cs, 0 ≤ z ∧ z < 8
  w1 : 1 ≤ pl.w
  w24 : pl.w ≤ 24
  st : ∀ x ∈ pl.sts, OkS pl.cs.length x
  sl : pl.sts.length ≤ s
  tl : tot pl.sts ≤ t
theorem Good.mono {s t s' t' : Nat} {pl : Pl} (g : Good s t pl) (h1 : s ≤ s') (h2 : t ≤ t') : Good s' t' pl := ⟨g.c1, g.c24, g.cb, g.w1, g.w24, g.st, Nat.le_trans g.sl h1, Nat.le_trans g.tl h2⟩
/-! a comprehension whose element is a draw -/
theorem lc_draws {te : TE} {j : Nat} {vs : List Nat} {σ : L2.St} {q : Pn} {m n : Nat} {u : Int} {H : Hp} {R : Addr → Hp → Prop} (hP : Pen q m H) (hn : n ≤ 10000)
    (hw : ∀ x, wipe ((wipe σ vs).set j (some x)) vs = wipe σ vs)
    (hte : ∀ (x : V) (H1 : Hp) (Q : VK) (m1 : Nat), Pen q m1 H1 → m1 < m + n → (∀ d H', 0 ≤ d → d < u → Go q (m1 + 1) H1 H' → Q (.int d) H') → te ((wipe σ vs).set j (some x)) H1 Q)
    (k : ∀ D H' ns, H D = none → Go q (m + n) H H' → H' D = some (.lst (ivs ns)) → ns.length = n → (∀ z ∈ ns, 0 ≤ z ∧ z < u) → R D H') :
    ∀ D, H D = none → ∃ W : Nat → Nat → Hp → Prop, (∃ m, W 0 m (upd H D (.lst []))) ∧ ∀ i m H, W i m H →
      ((Itr 0 n).stop i H ∧ R D H) ∨ ((Itr 0 n).go i H ∧ ∃ Nx : Hp → Prop, (∀ H', Nx H' → ∃ m', m' < m ∧ W (i + 1) m' H') ∧ ∀ x H', (Itr 0 n).yld i H x H' → (gName j) x (wipe σ vs) H' fun σ2 H2 => wipe σ2 vs = wipe σ vs ∧ tYes σ2 H2 fun b H3 =>
        if b = true then te σ2 H3 fun y H4 => ∃ acc, H4 D = some (.lst acc) ∧ acc.length < sizeLine ∧ Nx (upd H4 D (.lst (acc ++ [y]))) else Nx H3) := by
  intro D hD
  refine lc_range (lo := 0) (n := n) (g := gName j) (tt := tYes) (te := te) (vs := vs) (σ := σ) (H1 := H) (D := D) (Qd := fun H' => R D H')
    (fun i H' => ∃ ns, Go q (m + i) H H' ∧ H' D = some (.lst (ivs ns)) ∧ ns.length = i ∧ ∀ z ∈ ns, 0 ≤ z ∧ z < u) ?_ ?_ ?_
  · exact ⟨[], (Go.of hP (same_new hD)), upd_same, rfl, fun z hz => by simp at hz⟩
  · rintro i H' hi ⟨ns, g, hL, hl, hb⟩
    refine ⟨hw _, ?_⟩
    refine hte _ _ _ _ g.pen (by omega) fun d H'' d0 d1 g2 => ?_
    have hD2 : H'' D = some (.lst (ivs ns)) := g2.kp.lst (hP.free hD).1 hL
    refine ⟨_, hD2, by rw [ivs_len, hl]; exact szl (by omega), ns ++ [d], ?_, ?_, by rw [List.length_append, hl]; rfl, fun z hz => ?_⟩
    · exact Go.mut hP hD ((g.trans g2).mono (by omega))
    · rw [upd_same]
      unfold ivs
      rw [List.map_append]
      rfl
    · rcases List.mem_append.mp hz with hz | hz
      · exact hb z hz
      · rw [List.mem_singleton.mp hz]
        exact ⟨d0, d1⟩
  · rintro H' ⟨ns, g, hL, hl, hb⟩
    exact k D H' ns hD g hL hl hb
end Af

set_option Elab.async false
set_option linter.all false
set_option maxRecDepth 100000
namespace Af
open PySem L2
/-! things of any kind, and what they are -/
def tyNames : List String := ["NoneType", "bool", "int", "str", "list", "tuple", "dict"]
def clNames : List String := ["int", "bool", "tuple", "list", "dict", "str"]
def isB (n c : String) : Bool := n == c || (n == "bool" && c == "int")
theorem kit_all : ∀ n ∈ tyNames, ∀ c ∈ clNames, kitB n c = some (isB n c) := by decide +kernel
structure Ty (K : PySem.W.Frag) (H : Hp) (x : V) (n : String) : Prop where
  ty : TyOf K H x (.type n)
  mem : n ∈ tyNames
  nf : ∀ a o u, x = .ref a → H a ≠ some (.frz o u)
def rIsi' (K : PySem.W.Frag) : List V → Hp → VK → Prop := fun xs H Q => ∃ x n c, xs = [x, .ty c] ∧ Ty K H x n ∧ c ∈ clNames ∧ Q (.bl (isB n c)) H
theorem call_isi' {X : Cx} : CallR X (.builtin "isinstance") (rIsi' X.K) := call_imp call_isi fun xs H Q h => by
  obtain ⟨x, n, c, e, t, hc, q⟩ := h
  exact ⟨x, .ty c, _, _, _, e, .ty c, .base t.ty, kit_ty (kit_all n t.mem c hc), q⟩
theorem tyof_at {K : PySem.W.Frag} {H : Hp} {a : Addr} {n : String} (t : TyOf K H (.ref a) (.type n)) : ∃ o, H a = some o := by
  cases t with
  | lst e => exact ⟨_, e⟩
  | frz e => exact ⟨_, e⟩
  | tup e => exact ⟨_, e⟩
  | dK e => exact ⟨_, e⟩
  | dT e => exact ⟨_, e⟩
theorem Ty.same {K : PySem.W.Frag} {H H' : Hp} {x : V} {n : String} (s : Same H H') (t : Ty K H x n) : Ty K H' x n := by
  obtain ⟨t, m, nf⟩ := t
  refine ⟨?_, m, fun a o u e z => ?_⟩
  · cases t with
    | non => exact .non
    | bl b => exact .bl b
    | int i => exact .int i
    | str z => exact .str z
    | lst e => exact .lst (s _ _ e)
    | frz e => exact .frz (s _ _ e)
    | tup e => exact .tup (s _ _ e)
    | dK e => exact .dK (s _ _ e)
    | dT e => exact .dT (s _ _ e)
    | flt z => exact .flt z
  · subst e
    obtain ⟨o', ho⟩ := tyof_at t
    rw [s _ _ ho] at z
    exact nf a o u rfl (ho.trans z)
theorem ty_int {K : PySem.W.Frag} {H : Hp} {x : V} {n : String} (t : Ty K H x n) (h : n = "int") : ∃ i, x = .int i := by
  obtain ⟨t, _, nf⟩ := t
  generalize e : Value.type n = v at t
  subst h
  cases t with
  | int i => exact ⟨i, rfl⟩
  | ins => cases e
  | _ => exact absurd (by injection e) (by decide)
theorem ty_tup {K : PySem.W.Frag} {H : Hp} {x : V} {n : String} (t : Ty K H x n) (h : n = "tuple") : ∃ a xs, x = .ref a ∧ H a = some (.tup xs) := by
  obtain ⟨t, _, nf⟩ := t
  generalize e : Value.type n = v at t
  subst h
  cases t with
  | tup z => exact ⟨_, _, rfl, z⟩
  | ins => cases e
  | _ => exact absurd (by injection e) (by decide)
theorem ty_lst {K : PySem.W.Frag} {H : Hp} {x : V} {n : String} (t : Ty K H x n) (h : n = "list") : ∃ a xs, x = .ref a ∧ H a = some (.lst xs) := by
  obtain ⟨t, _, nf⟩ := t
  generalize e : Value.type n = v at t
  subst h
  cases t with
  | lst z => exact ⟨_, _, rfl, z⟩
  | frz z => exact absurd z (nf _ _ _ rfl)
  | ins => cases e
  | _ => exact absurd (by injection e) (by decide)
theorem no_int {K : PySem.W.Frag} {H : Hp} {x : V} {n : String} (t : Ty K H x n) (h : n ≠ "int") : ∀ i, x ≠ .int i := fun i e => by
  subst e
  cases t.ty with
  | int i => exact h rfl
theorem no_tup {K : PySem.W.Frag} {H : Hp} {x : V} {n : String} (t : Ty K H x n) (h : n ≠ "tuple") : ∀ a xs, x = .ref a → H a ≠ some (.tup xs) := fun a xs e z => by
  subst e
  cases t.ty with
  | tup e => exact h rfl
  | lst e => rw [e] at z; cases z
  | frz e => rw [e] at z; cases z
  | dK e => rw [e] at z; cases z
  | dT e => rw [e] at z; cases z
/-- a thing whose parts are things, to a depth -/
def Th (K : PySem.W.Frag) (H : Hp) : Nat → V → Prop
  | 0, x => ∃ n, Ty K H x n
  | d + 1, x => (∃ n, Ty K H x n) ∧ ∀ a xs, x = .ref a → (H a = some (.tup xs) ∨ H a = some (.lst xs)) → xs.length ≤ 100000 ∧ ∀ y ∈ xs, Th K H d y
theorem Th.ty {K : PySem.W.Frag} {H : Hp} : ∀ {d : Nat} {x : V}, Th K H d x → ∃ n, Ty K H x n
  | 0, _, h => h
  | _ + 1, _, h => h.1
theorem ty_at {K : PySem.W.Frag} {H : Hp} {a : Addr} {n : String} (t : Ty K H (.ref a) n) : ∃ o, H a = some o := tyof_at t.ty
theorem Th.same {K : PySem.W.Frag} {H H' : Hp} (s : Same H H') : ∀ {d : Nat} {x : V}, Th K H d x → Th K H' d x
  | 0, _, ⟨n, h⟩ => ⟨n, h.same s⟩
  | d + 1, x, ⟨⟨n, h⟩, k⟩ => ⟨⟨n, h.same s⟩, fun a xs e z => by
    subst e
    obtain ⟨o, ho⟩ := ty_at h
    have e' := s _ _ ho
    have z' : H a = some (.tup xs) ∨ H a = some (.lst xs) := by
      rcases z with z | z
      · rw [e'] at z
        rw [ho]
        exact .inl z
      · rw [e'] at z
        rw [ho]
        exact .inr z
    exact ⟨(k a xs rfl z').1, fun y hy => ((k a xs rfl z').2 y hy).same s⟩⟩
theorem th_int {K : PySem.W.Frag} {H : Hp} {i : Int} : ∀ {d : Nat}, Th K H d (.int i)
  | 0 => ⟨"int", .int i, by decide, fun _ _ _ e => by cases e⟩
  | _ + 1 => ⟨⟨"int", .int i, by decide, fun _ _ _ e => by cases e⟩, fun a xs e => by cases e⟩
theorem th_non {K : PySem.W.Frag} {H : Hp} : ∀ {d : Nat}, Th K H d .non
  | 0 => ⟨"NoneType", .non, by decide, fun _ _ _ e => by cases e⟩
  | _ + 1 => ⟨⟨"NoneType", .non, by decide, fun _ _ _ e => by cases e⟩, fun a xs e => by cases e⟩
theorem th_tup {K : PySem.W.Frag} {H : Hp} {a : Addr} {xs : List V} (e : H a = some (.tup xs)) (hl : xs.length ≤ 100000) : ∀ {d : Nat}, (∀ y ∈ xs, Th K H d y) → Th K H (d + 1) (.ref a) := fun {d} k =>
  ⟨⟨"tuple", .tup e, by decide, fun b o u z h => by cases z; rw [e] at h; cases h⟩, fun b ys z h => by
    cases z
    rcases h with h | h
    · rw [e] at h
      cases h
      exact ⟨hl, k⟩
    · rw [e] at h
      cases h⟩
theorem th_lst {K : PySem.W.Frag} {H : Hp} {a : Addr} {xs : List V} (e : H a = some (.lst xs)) (hl : xs.length ≤ 100000) : ∀ {d : Nat}, (∀ y ∈ xs, Th K H d y) → Th K H (d + 1) (.ref a) := fun {d} k =>
  ⟨⟨"list", .lst e, by decide, fun b o u z h => by cases z; rw [e] at h; cases h⟩, fun b ys z h => by
    cases z
    rcases h with h | h
    · rw [e] at h
      cases h
    · rw [e] at h
      cases h
      exact ⟨hl, k⟩⟩
/-! what the program's questions answer -/
def idxB (m : Int) : V → Bool
  | .int i => decide (0 ≤ i) && decide (i < m)
  | _ => false
def widthB : V → Bool
  | .int i => decide (1 ≤ i) && decide (i ≤ 24)
  | _ => false
def worthsB (H : Hp) : V → Bool
  | .ref a => match H a with
    | some (.tup xs) => !xs.isEmpty && xs.all (idxB 8)
    | _ => false
  | _ => false
def lenB (H : Hp) : V → Nat
  | .ref a => match H a with
    | some (.tup xs) => xs.length
    | some (.lst xs) => xs.length
    | _ => 0
  | _ => 0
def contentB (H : Hp) (x : V) : Bool := worthsB H x && decide (lenB H x ≤ 24)
def addB (m : Int) (n : Nat) : V → Bool
  | .int i => decide (i + (n : Int) ≤ m)
  | _ => false
def stepB (H : Hp) (m : Int) : V → Bool
  | .non => true
  | .ref a => match H a with
    | some (.tup [f, ws]) => idxB m f && worthsB H ws && addB m (lenB H ws) f
    | _ => false
  | _ => false
def stepsB (H : Hp) (m : Int) : V → Bool
  | .ref a => match H a with
    | some (.lst xs) => xs.all (stepB H m)
    | _ => false
  | _ => false
theorem worths_at {H : Hp} {a : Addr} {xs : List V} (h : H a = some (.tup xs)) : worthsB H (.ref a) = (!xs.isEmpty && xs.all (idxB 8)) := by
  unfold worthsB
  simp only [h]
theorem len_at {H : Hp} {a : Addr} {xs : List V} (h : H a = some (.tup xs)) : lenB H (.ref a) = xs.length := by
  unfold lenB
  simp only [h]
theorem worths_not {K : PySem.W.Frag} {H : Hp} {x : V} {n : String} (t : Ty K H x n) (h : n ≠ "tuple") : worthsB H x = false := by
  have z := no_tup t h
  cases x with
  | ref a =>
    cases e : H a with
    | none => simp only [worthsB, e]
    | some o =>
      cases o with
      | tup xs => exact absurd e (z a xs rfl)
      | _ => simp only [worthsB, e]
  | _ => rfl
theorem worths_same {K : PySem.W.Frag} {H H' : Hp} {x : V} {n : String} (t : Ty K H x n) (s : Same H H') : worthsB H' x = worthsB H x := by
  cases x with
  | ref a =>
    obtain ⟨o, ho⟩ := ty_at t
    simp only [worthsB, ho, s _ _ ho]
  | _ => rfl
theorem len_same {K : PySem.W.Frag} {H H' : Hp} {x : V} {n : String} (t : Ty K H x n) (s : Same H H') : lenB H' x = lenB H x := by
  cases x with
  | ref a =>
    obtain ⟨o, ho⟩ := ty_at t
    simp only [lenB, ho, s _ _ ho]
  | _ => rfl
theorem worths_true {H : Hp} {x : V} (h : worthsB H x = true) : ∃ a xs, x = .ref a ∧ H a = some (.tup xs) ∧ xs ≠ [] ∧ xs.all (idxB 8) = true := by
  cases x with
  | ref a =>
    cases e : H a with
    | none => simp only [worthsB, e] at h; cases h
    | some o =>
      cases o with
      | tup xs =>
        rw [worths_at e, Bool.and_eq_true] at h
        refine ⟨a, xs, rfl, e, fun z => ?_, h.2⟩
        rw [z] at h
        exact absurd h.1 (by decide)
      | _ => simp only [worthsB, e] at h; cases h
  | _ => cases h
theorem int_one : ∀ n ∈ tyNames, isB n "int" = true → (!isB n "bool") = decide (n = "int") := by decide +kernel
theorem int_two : ∀ n ∈ tyNames, isB n "int" = false → decide (n = "int") = false := by decide +kernel
theorem tup_not : ∀ n ∈ tyNames, n ≠ "tuple" → isB n "tuple" = false := by decide +kernel
theorem lst_not : ∀ n ∈ tyNames, n ≠ "list" → isB n "list" = false := by decide +kernel
theorem idx_not {m : Int} {x : V} (h : ∀ i, x ≠ .int i) : idxB m x = false := by
  cases x with
  | int i => exact absurd rfl (h i)
  | _ => rfl
theorem width_not {x : V} (h : ∀ i, x ≠ .int i) : widthB x = false := by
  cases x with
  | int i => exact absurd rfl (h i)
  | _ => rfl
theorem ty_is_lst {K : PySem.W.Frag} {H : Hp} {a : Addr} {n : String} {xs : List V} (t : Ty K H (.ref a) n) (e : H a = some (.lst xs)) : n = "list" := by
  obtain ⟨t, m, nf⟩ := t
  cases t with
  | lst z => rfl
  | frz z => exact absurd z (nf _ _ _ rfl)
  | tup z => rw [e] at z; cases z
  | dK z => rw [e] at z; cases z
  | dT z => rw [e] at z; cases z
theorem step_same {K : PySem.W.Frag} {H H' : Hp} {x : V} {m : Int} (th : Th K H 2 x) (s : Same H H') : stepB H' m x = stepB H m x := by
  cases x with
  | ref a =>
    obtain ⟨n, t⟩ := th.ty
    obtain ⟨o, ho⟩ := ty_at t
    have ho' := s _ _ ho
    cases o with
    | tup xs =>
      match xs, ho, ho' with
      | [], ho, ho' => simp only [stepB, ho, ho']
      | [_], ho, ho' => simp only [stepB, ho, ho']
      | [f, ws], ho, ho' =>
        obtain ⟨n2, t2⟩ := ((th.2 a _ rfl (.inl ho)).2 ws (List.mem_cons_of_mem _ List.mem_cons_self)).ty
        simp only [stepB, ho, ho']
        rw [worths_same t2 s, len_same t2 s]
      | _ :: _ :: _ :: _, ho, ho' => simp only [stepB, ho, ho']
    | _ => simp only [stepB, ho, ho']
  | _ => rfl
end Af

set_option Elab.async false
set_option linter.all false
set_option maxRecDepth 100000
namespace Af
open PySem L2
/-! a comprehension over zip, a for over enumerate, lists that stand still -/
theorem lc_zip {K : PySem.W.Frag} {a b : Addr} {xs ys : List V} {g : TG} {tt : TT} {te : TE} {vs : List Nat} {σ : L2.St} {H1 : Hp} {D : Addr} {Qd : Hp → Prop} (hl : xs.length = ys.length) (Pv : Nat → Hp → Prop)
    (h0 : Pv 0 (upd H1 D (.lst [])))
    (hq : ∀ i H, i ≤ xs.length → Pv i H → SqL K H a xs ∧ SqL K H b ys)
    (hs : ∀ (i : Nat) (x y : V) (T : Addr) (H : Hp), xs[i]? = some x → ys[i]? = some y → Pv i H → H T = none → g (.ref T) (wipe σ vs) (upd H T (.tup [x, y])) fun σ2 H2 => wipe σ2 vs = wipe σ vs ∧ tt σ2 H2 fun b H3 =>
      if b = true then te σ2 H3 fun y H4 => ∃ acc, H4 D = some (.lst acc) ∧ acc.length < sizeLine ∧ Pv (i + 1) (upd H4 D (.lst (acc ++ [y]))) else Pv (i + 1) H3)
    (hd : ∀ H, Pv xs.length H → Qd H) :
    ∃ W : Nat → Nat → Hp → Prop, (∃ m, W 0 m (upd H1 D (.lst []))) ∧ ∀ i m H, W i m H →
      ((Itz K a b).stop i H ∧ Qd H) ∨ ((Itz K a b).go i H ∧ ∃ Nx : Hp → Prop, (∀ H', Nx H' → ∃ m', m' < m ∧ W (i + 1) m' H') ∧ ∀ x H', (Itz K a b).yld i H x H' → g x (wipe σ vs) H' fun σ2 H2 => wipe σ2 vs = wipe σ vs ∧ tt σ2 H2 fun b H3 =>
        if b = true then te σ2 H3 fun y H4 => ∃ acc, H4 D = some (.lst acc) ∧ acc.length < sizeLine ∧ Nx (upd H4 D (.lst (acc ++ [y]))) else Nx H3) := by
  refine ⟨fun i m H => m = xs.length - i ∧ i ≤ xs.length ∧ Pv i H, ⟨xs.length, rfl, Nat.zero_le _, h0⟩, fun i m H z => ?_⟩
  obtain ⟨em, hi, p⟩ := z
  subst em
  obtain ⟨q1, q2⟩ := hq i H hi p
  by_cases hlt : i < xs.length
  · have hlt2 : i < ys.length := hl ▸ hlt
    refine .inr ⟨⟨xs, ys, xs[i], ys[i], q1, q2, List.getElem?_eq_getElem hlt, List.getElem?_eq_getElem hlt2⟩, Pv (i + 1), fun H' p' => ⟨xs.length - (i + 1), by omega, rfl, hlt, p'⟩, fun v H' y => ?_⟩
    obtain ⟨T, x, y', e1, hT, e2, hx, hy⟩ := y
    subst e1 e2
    exact hs i x y' T H (hx xs q1) (hy ys q2) p hT
  · have e : i = xs.length := Nat.le_antisymm hi (Nat.le_of_not_lt hlt)
    subst e
    exact .inl ⟨⟨xs, ys, q1, q2, .inl (Nat.le_refl _)⟩, hd H p⟩
theorem for_enum {K : PySem.W.Frag} {a : Addr} {xs : List V} {g : TG} {tb : TS} {D : Ends} {σ : L2.St} {H : Hp} (Pv : Nat → L2.St → Hp → Prop) (h0 : Pv 0 σ H)
    (hq : ∀ i σ H, i ≤ xs.length → Pv i σ H → SqL K H a xs)
    (hs : ∀ (i : Nat) (x : V) (T : Addr) (σ : L2.St) (H : Hp), xs[i]? = some x → Pv i σ H → H T = none → g (.ref T) σ (upd H T (.tup [.int (i : Nat), x])) fun σ2 H2 => tb { D with nx := Pv (i + 1), ct := Pv (i + 1), bk := D.nx } σ2 H2)
    (hd : ∀ σ H, Pv xs.length σ H → D.nx σ H) :
    ∃ W : Nat → Nat → L2.St → Hp → Prop, (∃ m, W 0 m σ H) ∧ ∀ i m σ H, W i m σ H →
      ((Ite K a).stop i H ∧ D.nx σ H) ∨ ((Ite K a).go i H ∧ ∃ N : L2.St → Hp → Prop, (∀ σ' H', N σ' H' → ∃ m', m' < m ∧ W (i + 1) m' σ' H') ∧ ∀ v H', (Ite K a).yld i H v H' → g v σ H' fun σ2 H2 => tb { D with nx := N, ct := N, bk := D.nx } σ2 H2) := by
  refine ⟨fun i m σ H => m = xs.length - i ∧ i ≤ xs.length ∧ Pv i σ H, ⟨xs.length, rfl, Nat.zero_le _, h0⟩, fun i m σ H z => ?_⟩
  obtain ⟨em, hi, p⟩ := z
  subst em
  have q1 := hq i σ H hi p
  by_cases hlt : i < xs.length
  · refine .inr ⟨⟨xs, xs[i], q1, List.getElem?_eq_getElem hlt⟩, Pv (i + 1), fun σ' H' p' => ⟨xs.length - (i + 1), by omega, rfl, hlt, p'⟩, fun v H' y => ?_⟩
    obtain ⟨T, x, e1, hT, e2, hx⟩ := y
    subst e1 e2
    exact hs i x T σ H (hx xs q1) p hT
  · have e : i = xs.length := Nat.le_antisymm hi (Nat.le_of_not_lt hlt)
    subst e
    exact .inl ⟨⟨xs, q1, Nat.le_refl _⟩, hd σ H p⟩
theorem int_at {ns : List Int} {i : Nat} {x : V} (h : (ivs ns)[i]? = some x) : ∃ z, x = .int z := by
  unfold ivs at h
  rw [List.getElem?_map] at h
  cases e : ns[i]? with
  | none =>
    rw [e] at h
    cases h
  | some z =>
    rw [e] at h
    exact ⟨z, (Option.some.inj h).symm⟩
end Af

set_option Elab.async false
set_option linter.all false
set_option maxRecDepth 100000
namespace Af
open PySem PySem.Spec PyProof.Rows L2
/-! steps and plans as data, equal or not -/
def stepD : Stp → PyData
  | none => .none
  | some (f, ws) => .tuple [.int f, .tuple (dvs ws)]
def stepsD : List Stp → List PyData
  | [] => []
  | a :: r => stepD a :: stepsD r
theorem dp_step {K : PySem.W.Frag} {H : Hp} : ∀ {x : V} {st : Stp}, StepV H x st → Dp K H x (stepD st)
  | _, none, h => by
    have e : _ = V.non := h
    subst e
    exact .non
  | _, some (f, ws), h => by
    obtain ⟨a, b, rfl, h1, h2⟩ := h
    exact .tup (SqT.of h1) (.cons (.int f) (.cons (.tup (SqT.of h2) (dp_ints ws)) .nil))
theorem dp_steps {K : PySem.W.Frag} {H : Hp} : ∀ {xs : List V} {sts : List Stp}, Paired (StepV H) xs sts → DpAll K H xs (stepsD sts)
  | _, _, .nil => .nil
  | _, _, .cons h t => .cons (dp_step h) (dp_steps t)
theorem lay_step : ∀ st : Stp, (stepD st).canLay0 = true ∧ (stepD st).depth ≤ 2
  | none => ⟨rfl, by decide⟩
  | some (f, ws) => by
    refine ⟨?_, ?_⟩
    · show (PyData.canLay0 (.int f) && (PyData.canLayAll0 (dvs ws) && true)) = true
      rw [lay_ints]
      rfl
    · show max (PyData.depth (.int f)) (max (PyData.depthAll (dvs ws) + 1) 0) + 1 ≤ 2
      rw [deep_ints]
      show max 0 (max (0 + 1) 0) + 1 ≤ 2
      decide
theorem lay_steps : ∀ sts : List Stp, PyData.canLayAll0 (stepsD sts) = true ∧ PyData.depthAll (stepsD sts) ≤ 2
  | [] => ⟨rfl, by decide⟩
  | a :: r => by
    obtain ⟨h1, h2⟩ := lay_step a
    obtain ⟨h3, h4⟩ := lay_steps r
    refine ⟨?_, ?_⟩
    · show (PyData.canLay0 (stepD a) && PyData.canLayAll0 (stepsD r)) = true
      rw [h1, h3]
      rfl
    · show max (PyData.depth (stepD a)) (PyData.depthAll (stepsD r)) ≤ 2
      omega
theorem sh_ints (ns : List Int) : SeqAt.shaped (.tuple (dvs ns)) = true := by
  show (PyData.canLayAll0 (dvs ns) && decide (PyData.depthAll (dvs ns) + 1 ≤ 64)) = true
  rw [lay_ints, deep_ints]
  rfl
theorem sh_int (n : Int) : SeqAt.shaped (.int n) = true := rfl
theorem sh_steps (sts : List Stp) : SeqAt.shaped (.list (stepsD sts)) = true := by
  obtain ⟨h1, h2⟩ := lay_steps sts
  show (PyData.canLayAll0 (stepsD sts) && decide (PyData.depthAll (stepsD sts) + 1 ≤ 64)) = true
  rw [h1, decide_eq_true (by omega)]
  rfl
def planD (pl : Pl) : PyData := .tuple [.tuple (dvs pl.cs), .int pl.w, .list (stepsD pl.sts)]
theorem sh_plan (pl : Pl) : SeqAt.shaped (planD pl) = true := by
  obtain ⟨h1, h2⟩ := lay_steps pl.sts
  show ((PyData.canLayAll0 (dvs pl.cs) && (true && (PyData.canLayAll0 (stepsD pl.sts) && true))) && decide (max (PyData.depthAll (dvs pl.cs) + 1) (max 0 (max (PyData.depthAll (stepsD pl.sts) + 1) 0)) + 1 ≤ 64)) = true
  rw [h1, lay_ints, deep_ints, decide_eq_true (by omega)]
  rfl
theorem dp_plan {K : PySem.W.Frag} {H : Hp} {p : Addr} {v : V} {pl : Pl} (h : PlanV p H v pl) : Dp K H v (planD pl) := by
  obtain ⟨a, ca, sa, xs, rfl, h1, h2, _, h3, h4⟩ := h.ex
  exact .tup (SqT.of h1) (.cons (.tup (SqT.of h2) (dp_ints _)) (.cons (.int _) (.cons (.lst (SqL.of h3) (dp_steps h4)) .nil)))
/-- what == of two plans is -/
def samePl (a b : Pl) : Bool := PyData.eqv (.tuple (dvs a.cs)) (.tuple (dvs b.cs)) && (PyData.eqv (.int a.w) (.int b.w) && PyData.eqv (.list (stepsD a.sts)) (.list (stepsD b.sts)))
theorem same_planD (a b : Pl) : PyData.eqv (planD a) (planD b) = samePl a b := by
  show (PyData.eqv (.tuple (dvs a.cs)) (.tuple (dvs b.cs)) && (PyData.eqv (.int a.w) (.int b.w) && (PyData.eqv (.list (stepsD a.sts)) (.list (stepsD b.sts)) && true))) = _
  rw [Bool.and_true]
  rfl
mutual
theorem eqv_comm : ∀ a b : PyData, PyData.eqv a b = PyData.eqv b a
  | .none, b => by cases b <;> rfl
  | .bool x, b => by
    cases b with
    | bool y => cases x <;> cases y <;> rfl
    | int j =>
      show ((if x = true then (1 : Int) else 0) == j) = (j == (if x = true then (1 : Int) else 0))
      exact BEq.comm
    | _ => rfl
  | .int x, b => by
    cases b with
    | int y =>
      show (x == y) = (y == x)
      exact BEq.comm
    | bool y =>
      show (x == (if y = true then (1 : Int) else 0)) = ((if y = true then (1 : Int) else 0) == x)
      exact BEq.comm
    | _ => rfl
  | .str x, b => by
    cases b with
    | str y =>
      show (x == y) = (y == x)
      exact BEq.comm
    | _ => rfl
  | .list xs, b => by
    cases b with
    | list ys => exact eqvAll_comm xs ys
    | _ => rfl
  | .tuple xs, b => by
    cases b with
    | tuple ys => exact eqvAll_comm xs ys
    | _ => rfl
  | .dict xs, b => by cases b <;> rfl
theorem eqvAll_comm : ∀ xs ys : List PyData, PyData.eqvAll xs ys = PyData.eqvAll ys xs
  | [], [] => rfl
  | [], _ :: _ => rfl
  | _ :: _, [] => rfl
  | x :: xs, y :: ys => by
    show (PyData.eqv x y && PyData.eqvAll xs ys) = (PyData.eqv y x && PyData.eqvAll ys xs)
    rw [eqv_comm x y, eqvAll_comm xs ys]
end
theorem same_comm (a b : Pl) : samePl a b = samePl b a := by
  rw [← same_planD, ← same_planD]
  exact eqv_comm _ _
theorem same_refl (a : Pl) : samePl a a = true := by
  rw [← same_planD]
  have := sh_plan a
  exact PySem.SeqAt.eqv_refl _ (Bool.and_eq_true_iff.mp this).1
/-! xs.count(None) -/
def rCntN (K : PySem.W.Frag) : V → List V → Hp → VK → Prop := fun x xs H Q => ∃ (p : Addr) (ys : List V) (ds : List PyData), x = .ref p ∧ xs = [.non] ∧ SqL K H p ys ∧ DpAll K H ys ds ∧ PyData.canLayAll0 ds = true ∧ ∀ n : Nat, Q (.int (n : Nat)) H
theorem mt_countN {X : Cx} (hu : X.A.units + 1 < cLine) : MtR X "list.count" (rCntN X.K) := by
  intro pins s σ H x xs v us Q I rx rxs h
  obtain ⟨p, ys, ds, rfl, rfl, hs, hd, hl, q⟩ := h
  cases (show v = Value.ref p from rx)
  obtain ⟨u, rfl, ru⟩ := rxs.one
  cases (show u = Value.none from ru)
  obtain ⟨its, rv, pl, _⟩ := I.list hs
  obtain ⟨as, rs⟩ := Dp.readsAll I ds ys its hd rv
  refine PySem.SeqAt.count_list_data (d := .none) (vs := its.toArray) pl.isList (by simpa using rs) Reads.none (PyData.plainAll_of_canLay0 _ hl) rfl (by show X.A.units + 1 + min _ 0 < cLine; omega) ?_
  exact ⟨.int (ds.countP (fun y => PyData.eqv y .none) : Nat), H, I.tok _, ⟨_, rfl⟩, q _⟩
/-! xs[::-1] -/
theorem pe_up {X : Cx} {e : Expr} {te : TE} (he : PE X e te) : PE X e (fun σ H R => ∃ R0 : VK, te σ H R0 ∧ ∀ x H1, R0 x H1 → R x H1) := ⟨fun pins s σ H R I q => by
  obtain ⟨R0, q1, q2⟩ := q
  refine thn (he.run pins s σ H R0 I q1) fun v s1 z => ?_
  obtain ⟨x, H1, I1, r1, q⟩ := z
  exact ⟨x, H1, I1, r1, q2 _ _ q⟩⟩
theorem pe_rev' {X : Cx} {e : Expr} {te : TE} {k : Nat} {p1 p2 p3 pos : Pos} (he : PE X e te) : PE X (.Subscript e (.Slice none none (some (.UnaryOp .USub (.Constant (.int 1) k p1) p2)) p3) pos) (tRev' te) := by
  have h := pe_revL (p1 := p1) (p2 := p2) (p3 := p3) (pos := pos) (k := k) (pe_up he)
  refine ⟨fun pins s σ H Q I q => h.run pins s σ H Q I ⟨_, q, fun x H1 z => ?_⟩⟩
  obtain ⟨a, xs, e, ha, q⟩ := z
  exact ⟨a, xs, e, SqL.of ha, q.mk⟩
end Af

set_option Elab.async false
set_option linter.all false
set_option maxRecDepth 100000
namespace Af
/-! a write broken into pieces: cell by cell (as the law does it), and by the cuts (as the program does it) -/
def spl (w : Int) : Int → List Int → Int → List Int → List (Int × List Int)
  | st, acc, _, [] => [(st, acc)]
  | st, acc, pos, x :: r => if acc ≠ [] ∧ pos % w = 0 then (st, acc) :: spl w pos [x] (pos + 1) r else spl w st (acc ++ [x]) (pos + 1) r
/-- the cuts among n cells from pos on -/
def cutL (w : Int) : Int → Nat → List Int
  | _, 0 => []
  | pos, n + 1 => if pos % w = 0 then pos :: cutL w (pos + 1) n else cutL w (pos + 1) n
/-- the part from s to e of the worths that begin at the cell f -/
def part (f : Int) (W : List Int) (s e : Int) : List Int := (W.drop (s - f).toNat).take ((e - f).toNat - (s - f).toNat)
def byCuts (f : Int) (W : List Int) : Int → List Int → Int → List (Int × List Int)
  | s, [], e => [(s, part f W s e)]
  | s, c :: cs, e => (s, part f W s c) :: byCuts f W c cs e
theorem zip_cuts (f : Int) (W : List Int) : ∀ (s : Int) (cs : List Int) (e : Int), ((s :: cs).zip (cs ++ [e])).map (fun p => (p.1, part f W p.1 p.2)) = byCuts f W s cs e
  | s, [], e => rfl
  | s, c :: cs, e => by
    show (s, part f W s c) :: ((c :: cs).zip (cs ++ [e])).map (fun p => (p.1, part f W p.1 p.2)) = (s, part f W s c) :: byCuts f W c cs e
    rw [zip_cuts f W c cs e]
theorem part_mid {f : Int} {pre acc r : List Int} {s e : Int} (hs : s = f + (pre.length : Int)) (he : e = s + (acc.length : Int)) : part f (pre ++ (acc ++ r)) s e = acc := by
  have e1 : (s - f).toNat = pre.length := by omega
  have e2 : (e - f).toNat - (s - f).toNat = acc.length := by omega
  unfold part
  rw [e2, e1, List.drop_left, List.take_left]
theorem spl_cuts {w f : Int} : ∀ (r pre acc : List Int) (st pos : Int), acc ≠ [] → st = f + (pre.length : Int) → pos = st + (acc.length : Int) →
    spl w st acc pos r = byCuts f (pre ++ (acc ++ r)) st (cutL w pos r.length) (pos + (r.length : Int))
  | [], pre, acc, st, pos, ne, hs, hp => by
    show [(st, acc)] = [(st, part f (pre ++ (acc ++ [])) st (pos + 0))]
    rw [part_mid hs (by omega)]
  | x :: r, pre, acc, st, pos, ne, hs, hp => by
    have le : (((x :: r).length : Nat) : Int) = (r.length : Int) + 1 := by rw [List.length_cons]; rfl
    by_cases c : pos % w = 0
    · have ih := spl_cuts (w := w) (f := f) r (pre ++ acc) [x] pos (pos + 1) (by simp) (by rw [List.length_append]; omega) (by show pos + 1 = pos + ((1 : Nat) : Int); omega)
      have e : (pre ++ acc) ++ ([x] ++ r) = pre ++ (acc ++ (x :: r)) := by simp
      rw [e] at ih
      show (if acc ≠ [] ∧ pos % w = 0 then (st, acc) :: spl w pos [x] (pos + 1) r else spl w st (acc ++ [x]) (pos + 1) r) = byCuts f (pre ++ (acc ++ (x :: r))) st (if pos % w = 0 then pos :: cutL w (pos + 1) r.length else cutL w (pos + 1) r.length) _
      rw [if_pos ⟨ne, c⟩, if_pos c, ih, le, show pos + ((r.length : Int) + 1) = pos + 1 + (r.length : Int) by omega]
      show _ = (st, part f (pre ++ (acc ++ (x :: r))) st pos) :: _
      rw [part_mid hs hp]
    · have ih := spl_cuts (w := w) r pre (acc ++ [x]) st (pos + 1) (by simp) hs (by rw [List.length_append]; show pos + 1 = st + ((acc.length + 1 : Nat) : Int); omega)
      have e : pre ++ ((acc ++ [x]) ++ r) = pre ++ (acc ++ (x :: r)) := by simp
      rw [e] at ih
      show (if acc ≠ [] ∧ pos % w = 0 then (st, acc) :: spl w pos [x] (pos + 1) r else spl w st (acc ++ [x]) (pos + 1) r) = byCuts f (pre ++ (acc ++ (x :: r))) st (if pos % w = 0 then pos :: cutL w (pos + 1) r.length else cutL w (pos + 1) r.length) _
      rw [if_neg (fun z => c z.2), if_neg c, ih, le, show pos + ((r.length : Int) + 1) = pos + 1 + (r.length : Int) by omega]
/-- both ways lead to the same pieces -/
theorem pieces_same {w f : Int} {ws : List Int} (ne : ws ≠ []) : spl w f [] f ws = byCuts f ws f (cutL w (f + 1) (ws.length - 1)) (f + (ws.length : Int)) := by
  cases ws with
  | nil => exact absurd rfl ne
  | cons x r =>
    have h := spl_cuts (w := w) (f := f) r [] [x] f (f + 1) (by simp) (by show f = f + ((0 : Nat) : Int); omega) (by show f + 1 = f + ((1 : Nat) : Int); omega)
    show (if ([] : List Int) ≠ [] ∧ f % w = 0 then _ else spl w f ([] ++ [x]) (f + 1) r) = _
    rw [if_neg (fun z => z.1 rfl)]
    have e : (((x :: r).length : Nat) : Int) = (r.length : Int) + 1 := by rw [List.length_cons]; rfl
    rw [e, show f + ((r.length : Int) + 1) = f + 1 + (r.length : Int) by omega]
    exact h
end Af

set_option Elab.async false
set_option linter.all false
set_option maxRecDepth 100000
namespace Af
open PySem L2
/-- a drawn plan whose list of steps is neither the pen's nor the one at l -/
structure PlanL (p l : Addr) (H : Hp) (v : V) (pl : Pl) : Prop where
  ex : ∃ a ca sa xs, v = .ref a ∧ H a = some (.tup [.ref ca, .int pl.w, .ref sa]) ∧ H ca = some (.tup (ivs pl.cs)) ∧ sa ≠ p ∧ sa ≠ l ∧ H sa = some (.lst xs) ∧ Paired (StepV H) xs pl.sts
theorem PlanL.v {p l : Addr} {H : Hp} {v : V} {pl : Pl} (h : PlanL p l H v pl) : PlanV p H v pl := by
  obtain ⟨a, ca, sa, xs, e, h1, h2, n, _, h3, h4⟩ := h.ex
  exact ⟨a, ca, sa, xs, e, h1, h2, n, h3, h4⟩
theorem PlanV.toL {p l : Addr} {H H' : Hp} {v : V} {pl : Pl} (h : PlanV p H v pl) (n : H l = none) (s : Same H H') : PlanL p l H' v pl := by
  obtain ⟨a, ca, sa, xs, e, h1, h2, np, h3, h4⟩ := h.ex
  exact ⟨a, ca, sa, xs, e, s _ _ h1, s _ _ h2, np, ne_of_none h3 n, s _ _ h3, steps_same s h4⟩
theorem PlanL.same {p l : Addr} {H H' : Hp} {v : V} {pl : Pl} (h : PlanL p l H v pl) (s : Same H H') : PlanL p l H' v pl := by
  obtain ⟨a, ca, sa, xs, e, h1, h2, np, nl, h3, h4⟩ := h.ex
  exact ⟨a, ca, sa, xs, e, s _ _ h1, s _ _ h2, np, nl, s _ _ h3, steps_same s h4⟩
theorem kp_upd {l : Addr} {H : Hp} {ys zs : List V} (e : H l = some (.lst ys)) : Kp l H (L2.upd H l (.lst zs)) := fun a o n k => by
  by_cases z : a = l
  · rcases n with n | n
    · exact absurd z n
    · rw [z, e] at k
      exact absurd (Option.some.inj k).symm (n ys)
  · rw [upd_ne z]
    exact k
theorem PlanL.upd {p l : Addr} {H : Hp} {v : V} {pl : Pl} {ys zs : List V} (h : PlanL p l H v pl) (e : H l = some (.lst ys)) : PlanL p l (L2.upd H l (.lst zs)) v pl := by
  have k := kp_upd (zs := zs) e
  obtain ⟨a, ca, sa, xs, e, h1, h2, np, nl, h3, h4⟩ := h.ex
  exact ⟨a, ca, sa, xs, e, k.tup h1, k.tup h2, np, nl, k.lst nl h3, steps_kp k h4⟩
/-- a list of plans that the program takes -/
def PlansL (p l : Addr) (H : Hp) (vs : List V) : Prop := ∀ v ∈ vs, ∃ pl, PlanL p l H v pl ∧ Good 40 40 pl
def Plans (p : Addr) (H : Hp) (vs : List V) : Prop := ∀ v ∈ vs, ∃ pl, PlanV p H v pl ∧ Good 40 40 pl
theorem Plans.toL {p l : Addr} {H H' : Hp} {vs : List V} (h : Plans p H vs) (n : H l = none) (s : Same H H') : PlansL p l H' vs := fun v hv => by
  obtain ⟨pl, h1, h2⟩ := h v hv
  exact ⟨pl, h1.toL n s, h2⟩
theorem PlansL.v {p l : Addr} {H : Hp} {vs : List V} (h : PlansL p l H vs) : Plans p H vs := fun v hv => by
  obtain ⟨pl, h1, h2⟩ := h v hv
  exact ⟨pl, h1.v, h2⟩
theorem PlansL.same {p l : Addr} {H H' : Hp} {vs : List V} (h : PlansL p l H vs) (s : Same H H') : PlansL p l H' vs := fun v hv => by
  obtain ⟨pl, h1, h2⟩ := h v hv
  exact ⟨pl, h1.same s, h2⟩
theorem PlansL.upd {p l : Addr} {H : Hp} {vs ys zs : List V} (h : PlansL p l H vs) (e : H l = some (.lst ys)) : PlansL p l (L2.upd H l (.lst zs)) vs := fun v hv => by
  obtain ⟨pl, h1, h2⟩ := h v hv
  exact ⟨pl, h1.upd e, h2⟩
theorem PlansL.app {p l : Addr} {H : Hp} {vs us : List V} (h : PlansL p l H vs) (k : PlansL p l H us) : PlansL p l H (vs ++ us) := fun v hv => by
  rcases List.mem_append.mp hv with hv | hv
  · exact h v hv
  · exact k v hv
theorem PlansL.one {p l : Addr} {H : Hp} {v : V} {pl : Pl} (h : PlanL p l H v pl) (g : Good 40 40 pl) : PlansL p l H [v] := fun u hu => by
  rw [List.mem_singleton.mp hu]
  exact ⟨pl, h, g⟩
theorem Plans.nil {p : Addr} {H : Hp} : Plans p H [] := fun v hv => by simp at hv
theorem Plans.app {p : Addr} {H : Hp} {vs us : List V} (h : Plans p H vs) (k : Plans p H us) : Plans p H (vs ++ us) := fun v hv => by
  rcases List.mem_append.mp hv with hv | hv
  · exact h v hv
  · exact k v hv
theorem Plans.cons {p : Addr} {H : Hp} {v : V} {vs : List V} {pl : Pl} (h : PlanV p H v pl) (g : Good 40 40 pl) (k : Plans p H vs) : Plans p H (v :: vs) := fun u hu => by
  rcases List.mem_cons.mp hu with rfl | hu
  · exact ⟨pl, h, g⟩
  · exact k u hu
theorem Plans.same {p : Addr} {H H' : Hp} {vs : List V} (h : Plans p H vs) (s : Same H H') : Plans p H' vs := fun v hv => by
  obtain ⟨pl, h1, h2⟩ := h v hv
  exact ⟨pl, h1.same s, h2⟩
/-- a plan changed at one place -/
theorem Good.cells {pl : Pl} {cs : List Int} (g : Good 40 40 pl) (c1 : pl.cs.length ≤ cs.length) (c2 : cs.length ≤ 24) (cb : ∀ z ∈ cs, 0 ≤ z ∧ z < 8) : Good 40 40 ⟨cs, pl.w, pl.sts⟩ := by
  refine ⟨Nat.le_trans g.c1 c1, c2, cb, g.w1, g.w24, fun x hx => ?_, g.sl, g.tl⟩
  have o := g.st x hx
  cases x with
  | none => exact True.intro
  | some fw =>
    obtain ⟨f, ws⟩ := fw
    obtain ⟨o1, o2, o3, o4⟩ := o
    exact ⟨o1, o2, by show f + (ws.length : Int) ≤ (cs.length : Int); omega, o4⟩
theorem Good.width {pl : Pl} {w : Int} (g : Good 40 40 pl) (h1 : 1 ≤ w) (h2 : w ≤ 24) : Good 40 40 ⟨pl.cs, w, pl.sts⟩ := ⟨g.c1, g.c24, g.cb, h1, h2, g.st, g.sl, g.tl⟩
theorem Good.steps {s t : Nat} {pl : Pl} {sts : List Stp} (g : Good s t pl) (h : ∀ x ∈ sts, OkS pl.cs.length x) (h1 : sts.length ≤ 40) (h2 : tot sts ≤ 40) : Good 40 40 ⟨pl.cs, pl.w, sts⟩ := ⟨g.c1, g.c24, g.cb, g.w1, g.w24, h, h1, h2⟩
theorem tot_drop_le (l : List Stp) (n : Nat) : tot (l.drop n) ≤ tot l := by
  have := tot_take_drop l n
  omega
/-- one step taken out, another one put in its place -/
theorem steps_at {l : List Stp} {i : Nat} {a b : Stp} {n : Nat} (hi : l[i]? = some a) (hb : stl b = stl a) (ob : OkS n b) (ok : ∀ x ∈ l, OkS n x) :
    (∀ x ∈ (l.take i ++ [b]) ++ l.drop (i + 1), OkS n x) ∧ ((l.take i ++ [b]) ++ l.drop (i + 1)).length = l.length ∧ tot ((l.take i ++ [b]) ++ l.drop (i + 1)) = tot l := by
  have hlt : i < l.length := (List.getElem?_eq_some_iff.mp hi).1
  have e : l.drop i = a :: l.drop (i + 1) := by
    rw [List.drop_eq_getElem_cons hlt]
    congr 1
    rw [List.getElem?_eq_getElem hlt] at hi
    exact Option.some.inj hi
  refine ⟨fun x hx => ?_, ?_, ?_⟩
  · rcases List.mem_append.mp hx with hx | hx
    · rcases List.mem_append.mp hx with hx | hx
      · exact ok x (List.mem_of_mem_take hx)
      · rw [List.mem_singleton.mp hx]
        exact ob
    · exact ok x (List.mem_of_mem_drop hx)
  · rw [List.length_append, List.length_append, List.length_take, List.length_drop]
    show min i l.length + 1 + (l.length - (i + 1)) = l.length
    omega
  · rw [tot_app, tot_app, tot_one, hb]
    have t := tot_take_drop l i
    rw [e, tot_cons] at t
    omega
end Af

set_option Elab.async false
set_option linter.all false
set_option maxRecDepth 100000
namespace Af
open PySem L2
abbrev s_l_split : Stmt := top 34
abbrev N_l_split : List Str := ["_law_index", "_law_step_here", "_law_span_here", "_law_first", "_law_worths_here", "_law_found", "_law_some", "_law_k"]
theorem sc_l_split : FnScope N_l_split ["_law_index", "_law_step_here", "_law_span_here"] (defScope s_l_split) := ⟨rfl, rfl, rfl, by decide +kernel, rfl, by decide +kernel, by decide +kernel⟩

abbrev s_l_parts : Stmt := top 35
abbrev N_l_parts : List Str := ["_law_plan_here", "_law_found", "_law_index"]
theorem sc_l_parts : FnScope N_l_parts ["_law_plan_here"] (defScope s_l_parts) := ⟨rfl, rfl, rfl, by decide +kernel, rfl, by decide +kernel, by decide +kernel⟩

/-- a piece: the step that it is of, its first cell, its worths -/
def PieceE (H : Hp) (ix : Int) (x : V) (p : Int × List Int) : Prop := ∃ t b, x = .ref t ∧ H t = some (.tup [.int ix, .int p.1, .ref b]) ∧ H b = some (.tup (ivs p.2))
theorem PieceE.kp {q : Addr} {H H' : Hp} {ix : Int} {x : V} {p : Int × List Int} (k : Kp q H H') (h : PieceE H ix x p) : PieceE H' ix x p := by
  obtain ⟨t, b, e, h1, h2⟩ := h
  exact ⟨t, b, e, k.tup h1, k.tup h2⟩
theorem pieces_kp {q : Addr} {H H' : Hp} {ix : Int} {xs : List V} {ps : List (Int × List Int)} (k : Kp q H H') (h : Paired (PieceE H ix) xs ps) : Paired (PieceE H' ix) xs ps := L2.Paired.mapP h fun _ _ z => z.kp k
theorem pieces_st {H H' : Hp} {ix : Int} {xs : List V} {ps : List (Int × List Int)} (k : Same H H') (h : Paired (PieceE H ix) xs ps) : Paired (PieceE H' ix) xs ps := pieces_kp (q := 0) (Kp.same k) h
theorem spl_go {w st pos x : Int} {acc r : List Int} (c : ¬ (acc ≠ [] ∧ pos % w = 0)) : spl w st acc pos (x :: r) = spl w st (acc ++ [x]) (pos + 1) r := by
  show (if acc ≠ [] ∧ pos % w = 0 then _ else _) = _
  rw [if_neg c]
theorem spl_cut {w st pos x : Int} {acc r : List Int} (c : acc ≠ [] ∧ pos % w = 0) : spl w st acc pos (x :: r) = (st, acc) :: spl w pos [x] (pos + 1) r := by
  show (if acc ≠ [] ∧ pos % w = 0 then _ else _) = _
  rw [if_pos c]
def sp_split : Sp := fun vs H Q _ => ∃ (ix f sp : Int) (a b : Addr) (ws : List Int), vs = [.int ix, .ref a, .int sp] ∧ H a = some (.tup [.int f, .ref b]) ∧ H b = some (.tup (ivs ws)) ∧ 0 < sp ∧ ws.length ≤ 1000 ∧
  ∀ l H' xs, Same H H' → H l = none → H' l = some (.lst xs) → Paired (PieceE H' ix) xs (spl sp f [] f ws) → Q (.ref l) H'
section
variable {P : Program} {w : World} {K : PySem.W.Frag} {mg : Str → Option Value} {base : Heap}
theorem ok_split {f : Addr} {fd : FuncData} (F : Fun K "_law_split" "_law_split" s_l_split f fd) (T : Txt mg) : FnOk P w K mg base CX0 1 f fd ["_law_index", "_law_step_here", "_law_span_here"] sp_split := by
  refine F.ok sc_l_split (fun vs H Q E h => ?_) (fun cdv A outer s H vs Q E hr h => ?_)
  · obtain ⟨_, _, _, _, _, _, rfl, _⟩ := h
    rfl
  obtain ⟨ix, f, sp, a, b, ws, rfl, ha, hb, hsp, hws, k⟩ := h
  refine ⟨_, (pss_cons (ps_asg (pv 1) (pg_tup rfl (pgs_cons (pg_name (i := 3) sc_l_split.nd rfl (Or.inl rfl)) (pgs_cons (pg_name (i := 4) sc_l_split.nd rfl (Or.inl rfl)) pgs_nil))))
    (pss_cons (ps_par (i := 5) (j := 6) rfl sc_l_split.nd rfl rfl (by decide) rfl rfl (pa_cons (pe_lst' pa_nil) (pa_cons (pe_lst' pa_nil) pa_nil)) (by rfl))
    (pss_cons (ps_for PassesOwn.never rfl (pi_range1 rfl T.range (pa_cons (pe_callB call_len' (by rfl) T.len (by decide +kernel) (pa_cons (pv 4) pa_nil)) pa_nil)) (pg_name (i := 7) sc_l_split.nd rfl (Or.inl rfl))
      (pss_cons (ps_cut (ps_if (PW.pt (pw_and (pt_cmpR (op_neNil hr.units) (pv 6) (pe_lst' pa_nil) (nomark _)) (pw_and1 (pt_cmpR op_eq (pe_op op_mod (pe_callTy call_int1 (by rfl) T.int (by decide +kernel) (pa_cons (pe_op op_add (pv 3) (pv 7)) pa_nil)) (pv 2)) pe_int (nomark _)))))
      (pss_cons (ps_expr (pe_bm PySem.F.plainAttrs_list PySem.F.slot_list_append PySem.F.type_list_append mt_append (pv 5) (pa_cons (pe_tup' (pa_cons (pv 0) (pa_cons (pe_op op_sub (pe_op op_add (pv 3) (pv 7)) (pe_callB call_len' (by rfl) T.len (by decide +kernel) (pa_cons (pv 6) pa_nil))) (pa_cons (pe_callTy call_tuple' (by rfl) T.tuple (by decide +kernel) (pa_cons (pv 6) pa_nil)) pa_nil)))) pa_nil)))
    (pss_one (ps_set (i := 6) sc_l_split.nd rfl (Or.inl rfl) (pe_lst' pa_nil))))
      pss_nil))
    (pss_one (ps_expr (pe_bm PySem.F.plainAttrs_list PySem.F.slot_list_append PySem.F.type_list_append mt_append (pv 6) (pa_cons (pe_ix ix_seq' (pv 4) (pv 7) (fun _ _ => rfl)) pa_nil))))))
    (pss_one (ps_ret (pe_op op_cat' (pv 5) (pe_lst' (pa_cons (pe_tup' (pa_cons (pv 0) (pa_cons (pe_op op_sub (pe_op op_add (pv 3) (pe_callB call_len' (by rfl) T.len (by decide +kernel) (pa_cons (pv 4) pa_nil))) (pe_callB call_len' (by rfl) T.len (by decide +kernel) (pa_cons (pv 6) pa_nil))) (pa_cons (pe_callTy call_tuple' (by rfl) T.tuple (by decide +kernel) (pa_cons (pv 6) pa_nil)) pa_nil)))) pa_nil)))))))), ?_⟩
  refine ⟨_, rfl, a, _, rfl, SqT.of ha, rfl, _, _, rfl, _, _, rfl, rfl, ?_⟩
  refine ⟨szr, fun fl H1 hfl s1 h1 => ⟨szr, fun sl H2 hsl s2 h2 => ⟨_, _, rfl, ?_⟩⟩⟩
  have b2 := s2 _ _ (s1 _ _ hb)
  refine ⟨_, rfl, b, _, rfl, .inr b2, _, rfl, ?_, ?_, ?_⟩
  · omega
  · rw [ivs_len]
    omega
  refine for_range (lo := 0) (fun i σ' H' => ∃ sl xs ss kv out, σ' = [some (.int ix), some (.ref a), some (.int sp), some (.int f), some (.ref b), some (.ref fl), some (.ref sl), kv] ∧ Same H H' ∧ H sl = none ∧ sl ≠ fl ∧ H' fl = some (.lst xs) ∧ H' sl = some (.lst (ivs ss)) ∧ xs.length ≤ i ∧ ss.length ≤ i ∧
    Paired (PieceE H' ix) xs out ∧ out ++ spl sp (f + (i : Int) - (ss.length : Int)) ss (f + (i : Int)) (ws.drop i) = spl sp f [] f ws) ?_ ?_ ?_
  · refine ⟨sl, [], [], none, [], rfl, s1.trans s2, s1.free hsl, nofree h1 hsl, s2 _ _ h1, h2, Nat.le_refl _, Nat.le_refl _, .nil, ?_⟩
    show spl sp (f + 0 - 0) [] (f + 0) ws = spl sp f [] f ws
    rw [Int.add_zero, Int.sub_zero]
  · rintro i σ' H' hi ⟨sl, xs, ss, kv, out, rfl, s3, hsl, ns, h3, h4, l1, l2, pr, tot⟩
    have hi' : i < ws.length := by
      have e : ((ivs ws).length : Int).toNat = ws.length := by rw [ivs_len]; omega
      omega
    rw [List.drop_eq_getElem_cons hi'] at tot
    have b3 := s3 _ _ hb
    refine ⟨fun σ' H' => ∃ sl xs ss out, σ' = [some (.int ix), some (.ref a), some (.int sp), some (.int f), some (.ref b), some (.ref fl), some (.ref sl), some (.int (0 + (i : Int)))] ∧ Same H H' ∧ H sl = none ∧ sl ≠ fl ∧ H' fl = some (.lst xs) ∧ H' sl = some (.lst (ivs ss)) ∧ xs.length ≤ i + 1 ∧ ss.length ≤ i ∧
      Paired (PieceE H' ix) xs out ∧ out ++ spl sp (f + (i : Int) - (ss.length : Int)) (ss ++ [ws[i]]) (f + (i : Int) + 1) (ws.drop (i + 1)) = spl sp f [] f ws, ?_, ?_⟩
    · refine ⟨_, rfl, szr, fun e H5 he s5 h5 => ?_⟩
      have k3 := s5 _ _ h3
      have k4 := s5 _ _ h4
      have s6 := s3.trans s5
      have no : ¬ (ss ≠ [] ∧ (f + (i : Int)) % sp = 0) → ∃ sl' xs' ss' out', [some (V.int ix), some (.ref a), some (.int sp), some (.int f), some (.ref b), some (.ref fl), some (.ref sl), some (.int (0 + (i : Int)))] = [some (.int ix), some (.ref a), some (.int sp), some (.int f), some (.ref b), some (.ref fl), some (.ref sl'), some (.int (0 + (i : Int)))] ∧ Same H H5 ∧ H sl' = none ∧ sl' ≠ fl ∧ H5 fl = some (.lst xs') ∧ H5 sl' = some (.lst (ivs ss')) ∧ xs'.length ≤ i + 1 ∧ ss'.length ≤ i ∧
          Paired (PieceE H5 ix) xs' out' ∧ out' ++ spl sp (f + (i : Int) - (ss'.length : Int)) (ss' ++ [ws[i]]) (f + (i : Int) + 1) (ws.drop (i + 1)) = spl sp f [] f ws :=
        fun c => ⟨sl, xs, ss, out, rfl, s6, hsl, ns, k3, k4, by omega, l2, pieces_st s5 pr, by rw [← spl_go c]; exact tot⟩
      have e0 : (0 : Int) + (i : Int) = (i : Int) := Int.zero_add _
      refine ⟨sl, e, ss, rfl, rfl, k4, h5, _, rfl, ite2 (fun c1 => ?_) (fun c1 => iteF (no fun z => ?_))⟩
      rotate_left
      · cases ss with
        | nil => exact z.1 rfl
        | cons y ys => exact c1 rfl
      have ne : ss ≠ [] := fun z => by
        rw [z] at c1
        exact absurd c1 (by decide)
      refine ⟨_, rfl, _, rfl, _, _, rfl, rfl, .inl ⟨_, rfl, _, rfl, _, _, rfl, rfl, hsp, rfl, _, rfl, ite2 (fun c2 => ?_) (fun c2 => no fun z => ?_)⟩⟩
      rotate_left
      · exact c2 (decide_eq_true (by show V.int ((f + (0 + (i : Int))) % sp) = V.int 0; rw [e0, z.2]))
      have cut : (f + (i : Int)) % sp = 0 := by
        have z := V.int.inj (of_decide_eq_true c2)
        rw [e0] at z
        exact z
      refine ⟨_, rfl, .inl ⟨rfl, _, SqL.of k3⟩, ?_⟩
      refine ⟨_, rfl, _, rfl, _, rfl, _, _, rfl, rfl, _, rfl, sl, _, rfl, .inl k4, _, _, rfl, rfl, _, rfl, sl, _, rfl, .inl k4, fun tp H7 s7 h7 => ?_⟩
      refine ⟨szr, fun t H8 ht s8 h8 => ?_⟩
      have k5 := s8 _ _ (s7 _ _ k3)
      refine ⟨fl, xs, _, rfl, rfl, k5, szl (by omega), ?_⟩
      have s9 : Same H (upd H8 fl (.lst (xs ++ [V.ref t]))) := same_mut (s6.trans (s7.trans s8)) hfl
      refine ⟨szr, fun nl H9 hnl s10 h10 => ?_⟩
      have kk := kp_upd (zs := xs ++ [V.ref t]) k5
      have pp : Paired (PieceE H9 ix) (xs ++ [V.ref t]) (out ++ [(f + (i : Int) - (ss.length : Int), ss)]) := by
        refine paired_app (pieces_st s10 (pieces_kp kk (pieces_st (s5.trans (s7.trans s8)) pr))) (.cons ⟨t, tp, rfl, ?_, s10 _ _ (kk.tup (s8 _ _ h7))⟩ .nil)
        rw [s10 _ _ (kk.tup h8), e0, ivs_len]
      refine ⟨nl, xs ++ [V.ref t], [], _, rfl, s9.trans s10, s9.free hnl, nofree upd_same hnl, s10 _ _ upd_same, h10, by rw [List.length_append]; show xs.length + 1 ≤ i + 1; omega, Nat.zero_le _, pp, ?_⟩
      rw [spl_cut ⟨ne, cut⟩] at tot
      show (out ++ [(f + (i : Int) - (ss.length : Int), ss)]) ++ spl sp (f + (i : Int) - 0) [ws[i]] (f + (i : Int) + 1) (ws.drop (i + 1)) = _
      rw [Int.sub_zero, List.append_assoc]
      exact tot
    · rintro σ' H' ⟨sl, xs, ss, out, rfl, s3, hsl, ns, h3, h4, l1, l2, pr, tot⟩
      have b3 := s3 _ _ hb
      refine ⟨_, rfl, .inl ⟨rfl, _, SqL.of h4⟩, ?_⟩
      refine ⟨_, rfl, _, rfl, b, _, _, _, rfl, rfl, .inr b3, at_of (Int.zero_add _) (ivs_get hi'), ?_⟩
      refine ⟨sl, ivs ss, _, rfl, rfl, h4, szl (by rw [ivs_len]; omega), ?_⟩
      have kk := kp_upd (zs := ivs ss ++ [V.int ws[i]]) h4
      refine ⟨sl, xs, ss ++ [ws[i]], _, out, rfl, same_mut s3 hsl, hsl, ns, by rw [upd_ne ns.symm]; exact h3, ?_, l1, by rw [List.length_append]; show ss.length + 1 ≤ i + 1; omega, pieces_kp kk pr, ?_⟩
      · rw [upd_same]
        unfold ivs
        rw [List.map_append]
        rfl
      · have e1 : f + ((i + 1 : Nat) : Int) - ((ss ++ [ws[i]]).length : Int) = f + (i : Int) - (ss.length : Int) := by
          rw [List.length_append]
          show f + ((i + 1 : Nat) : Int) - ((ss.length + 1 : Nat) : Int) = _
          omega
        have e2 : f + ((i + 1 : Nat) : Int) = f + (i : Int) + 1 := by omega
        rw [e1, e2]
        exact tot
  · rintro σ' H' ⟨sl, xs, ss, kv, out, rfl, s3, hsl, ns, h3, h4, l1, l2, pr, tot⟩
    have e : ((ivs ws).length : Int).toNat = ws.length := by rw [ivs_len]; omega
    rw [e] at l1 l2 tot
    rw [List.drop_length] at tot
    have b3 := s3 _ _ hb
    refine ⟨_, rfl, _, rfl, _, rfl, _, rfl, b, _, rfl, .inr b3, _, _, rfl, rfl, _, rfl, sl, _, rfl, .inl h4, _, _, rfl, rfl, _, rfl, sl, _, rfl, .inl h4, fun tp H7 s7 h7 => ?_⟩
    refine ⟨szr, fun t H8 ht s8 h8 => ⟨szr, fun nl H9 hnl s9 h9 => ?_⟩⟩
    have s10 := s7.trans (s8.trans s9)
    refine ⟨fl, nl, _, _, rfl, rfl, s10 _ _ h3, h9, sz (by show xs.length + 1 ≤ 100000; omega), fun r H10 hr2 s11 h11 => ?_⟩
    refine k r H10 _ (s3.trans (s10.trans s11)) ((s3.trans s10).free hr2) h11 ?_
    rw [← tot]
    refine paired_app (pieces_st (s10.trans s11) pr) (.cons ⟨t, tp, rfl, ?_, s11 _ _ (s9 _ _ (s8 _ _ h7))⟩ .nil)
    rw [s11 _ _ (s9 _ _ h8), ivs_len, ivs_len]
end
end Af

set_option Elab.async false
set_option linter.all false
set_option maxRecDepth 100000
namespace Af
open PySem L2
theorem cutL_snoc (w : Int) : ∀ (n : Nat) (pos : Int), cutL w pos (n + 1) = cutL w pos n ++ (if (pos + (n : Int)) % w = 0 then [pos + (n : Int)] else [])
  | 0, pos => by
    show (if pos % w = 0 then pos :: cutL w (pos + 1) 0 else cutL w (pos + 1) 0) = [] ++ (if (pos + ((0 : Nat) : Int)) % w = 0 then [pos + ((0 : Nat) : Int)] else [])
    rw [show pos + ((0 : Nat) : Int) = pos by omega]
    rfl
  | n + 1, pos => by
    have ih := cutL_snoc w n (pos + 1)
    have e : pos + 1 + (n : Int) = pos + ((n + 1 : Nat) : Int) := by omega
    rw [e] at ih
    show (if pos % w = 0 then pos :: cutL w (pos + 1) (n + 1) else cutL w (pos + 1) (n + 1)) = (if pos % w = 0 then pos :: cutL w (pos + 1) n else cutL w (pos + 1) n) ++ _
    rw [ih]
    by_cases c : pos % w = 0
    · rw [if_pos c, if_pos c]
      rfl
    · rw [if_neg c, if_neg c]
theorem cutL_in {w : Int} : ∀ {n : Nat} {pos z : Int}, z ∈ cutL w pos n → pos ≤ z ∧ z < pos + (n : Int)
  | 0, pos, z, h => by cases h
  | n + 1, pos, z, h => by
    have k : z = pos ∨ z ∈ cutL w (pos + 1) n := by
      by_cases c : pos % w = 0
      · rw [show cutL w pos (n + 1) = pos :: cutL w (pos + 1) n from if_pos c] at h
        exact List.mem_cons.mp h
      · rw [show cutL w pos (n + 1) = cutL w (pos + 1) n from if_neg c] at h
        exact .inr h
    rcases k with rfl | k
    · omega
    · have := cutL_in k
      omega
theorem cutL_len {w : Int} : ∀ (n : Nat) (pos : Int), (cutL w pos n).length ≤ n
  | 0, _ => Nat.le_refl 0
  | n + 1, pos => by
    have ih := cutL_len (w := w) n (pos + 1)
    by_cases c : pos % w = 0
    · rw [show cutL w pos (n + 1) = pos :: cutL w (pos + 1) n from if_pos c, List.length_cons]
      omega
    · rw [show cutL w pos (n + 1) = cutL w (pos + 1) n from if_neg c]
      omega
/-- the slice of the program is that part -/
theorem slice_part {f s e : Int} {ws : List Int} (h1 : f ≤ s) (h2 : f ≤ e) (h3 : s ≤ f + (ws.length : Int)) (h4 : e ≤ f + (ws.length : Int)) : cutV (ivs ws) (some (s - f)) (some (e - f)) = ivs (part f ws s e) := by
  obtain ⟨a, ha⟩ := Int.eq_ofNat_of_zero_le (show 0 ≤ s - f by omega)
  obtain ⟨b, hb⟩ := Int.eq_ofNat_of_zero_le (show 0 ≤ e - f by omega)
  unfold cutV part
  rw [ha, hb, HT.sIx_nat, HT.sIx_nat, ivs_len, Nat.min_eq_left (by omega), Nat.min_eq_left (by omega)]
  show ((ivs ws).drop a).take (b - a) = ivs ((ws.drop (a : Int).toNat).take ((b : Int).toNat - (a : Int).toNat))
  rw [Int.toNat_natCast, Int.toNat_natCast]
  unfold ivs
  rw [List.map_take, List.map_drop]
end Af

set_option Elab.async false
set_option linter.all false
set_option maxRecDepth 100000
set_option maxHeartbeats 4000000
namespace Af
open PySem L2
abbrev s_broken : Stmt := top 20
abbrev N_broken : List Str := ["width", "index", "write", "first", "worths", "behind", "cuts", "starts", "ends", "cell", "start", "end"]
theorem sc_broken : FnScope N_broken ["width", "index", "write"] (defScope s_broken) := ⟨rfl, rfl, rfl, by decide +kernel, rfl, by decide +kernel, by decide +kernel⟩

theorem paired_take_succ {α β : Type} {F : α → β → Prop} {a : List α} {b : List β} {i : Nat} {y : β} (h : Paired F a (b.take i)) (x : α) (hx : F x y) (hb : b[i]? = some y) : Paired F (a ++ [x]) (b.take (i + 1)) := by
  rw [List.take_add_one, hb]
  exact paired_app h (.cons hx .nil)
def sp_brokenX : Sp := fun vs H Q _ => ∃ (wd ix f : Int) (t b : Addr) (ws : List Int), vs = [.int wd, .int ix, .ref t] ∧ H t = some (.tup [.int f, .ref b]) ∧ H b = some (.tup (ivs ws)) ∧ 0 < wd ∧ 0 ≤ f ∧ f ≤ 1000 ∧ ws ≠ [] ∧ ws.length ≤ 100 ∧
  ∀ l H' xs, Same H H' → H l = none → H' l = some (.lst xs) → Paired (PieceE H' ix) xs (spl wd f [] f ws) → Q (.ref l) H'
section
variable {P : Program} {w : World} {K : PySem.W.Frag} {mg : Str → Option Value} {base : Heap}
theorem ok_brokenX {f : Addr} {fd : FuncData} (F : Fun K "_broken" "_broken" s_broken f fd) (T : Txt mg) : FnOk P w K mg base CX0 1 f fd ["width", "index", "write"] sp_brokenX := by
  refine F.ok sc_broken (fun vs H Q E h => ?_) (fun cdv A outer s H vs Q E hr h => ?_)
  · obtain ⟨_, _, _, _, _, _, rfl, _⟩ := h
    rfl
  obtain ⟨wd, ix, f, t, b, ws, rfl, ht, hb, w0, f0, f1, wn, wl, k⟩ := h
  refine ⟨_, (pss_cons (ps_asg (pv 2) (pg_tup rfl (pgs_cons (pg_name (i := 3) sc_broken.nd rfl (Or.inr rfl)) (pgs_cons (pg_name (i := 4) sc_broken.nd rfl (Or.inr rfl)) pgs_nil))))
    (pss_cons (ps_set (i := 5) sc_broken.nd rfl (Or.inl rfl) (pe_op op_add (pv 3) (pe_callB call_len' (by rfl) T.len (by decide +kernel) (pa_cons (pv 4) pa_nil))))
    (pss_cons (ps_setLc (i := 6) (own := [("cell", 9)]) (g := (gName 9)) rfl sc_broken.nd rfl rfl (sw_true rfl rfl rfl (by decide +kernel)) (pi_range2 rfl T.range (pa_cons (pe_op op_add (pv 3) pe_int) (pa_cons (pv 5) pa_nil))) (blkOk_by (own := [("cell", 9)]) (N := N_broken) (sc := defScope s_broken) (by decide +kernel)) (fun _ _ _ _ _ => pg_name (i := 9) sc_broken.nd rfl (Or.inl rfl)) (fun _ _ _ _ _ => (pts_one (pt_cmpR op_eq (pe_op op_mod (pv 9) (pv 0)) pe_int (nomark _)))) (fun _ _ _ _ _ => (pv 9)))
    (pss_cons (ps_par (i := 7) (j := 8) rfl sc_broken.nd rfl rfl (by decide) rfl rfl (pa_cons (pe_op op_cat' (pe_lst' (pa_cons (pv 3) pa_nil)) (pv 6)) (pa_cons (pe_op op_cat' (pv 6) (pe_lst' (pa_cons (pv 5) pa_nil))) pa_nil)) (by rfl))
    (pss_one (ps_ret (pe_lc (own := [("start", 10), ("end", 11)]) (g := (gTup K 2 (gCons (gName 10) (gCons (gName 11) gNil)))) (tt := tYes) rfl sc_broken.nd (pi_zip rfl T.zip (pa_cons (pv 7) (pa_cons (pv 8) pa_nil))) (blkOk_by (own := [("start", 10), ("end", 11)]) (N := N_broken) (sc := defScope s_broken) (by decide +kernel)) (fun _ _ _ _ _ => pg_tup rfl (pgs_cons (pg_name (i := 10) sc_broken.nd rfl (Or.inl rfl)) (pgs_cons (pg_name (i := 11) sc_broken.nd rfl (Or.inl rfl)) pgs_nil))) (fun _ _ _ _ _ => pts_nil) (fun _ _ _ _ _ => (pe_tup' (pa_cons (pv 1) (pa_cons (pv 10) (pa_cons (pe_slice sl_tup' (pv 4) (po_some (pe_op op_sub (pv 10) (pv 3))) (po_some (pe_op op_sub (pv 11) (pv 3)))) pa_nil)))))))))))), ?_⟩
  refine ⟨_, rfl, t, _, rfl, SqT.of ht, rfl, _, _, rfl, _, _, rfl, rfl, ?_⟩
  refine ⟨_, rfl, _, rfl, b, _, rfl, .inr hb, _, _, rfl, rfl, ?_⟩
  have hln := ivs_len ws
  have hpos : 0 < ws.length := List.length_pos_iff.mpr wn
  refine ⟨_, rfl, _, _, rfl, rfl, _, rfl, f + 1, f + ((ivs ws).length : Int), rfl, ⟨by omega, by omega, by omega, by omega⟩, fun D hD => lc_range (lo := f + 1) (n := (f + ((ivs ws).length : Int) - (f + 1)).toNat) (fun i H' => Same H H' ∧ H' D = some (.lst (ivs (cutL wd (f + 1) i)))) ?_ ?_ ?_⟩
  · exact ⟨same_new hD, upd_same⟩
  · rintro i H' hi ⟨s1, h1⟩
    have sn := cutL_snoc wd i (f + 1)
    have cl := cutL_len (w := wd) i (f + 1)
    refine ⟨rfl, _, rfl, _, rfl, _, _, rfl, rfl, w0, rfl, _, rfl, ite2 (fun y => ?_) (fun y => ⟨s1, ?_⟩)⟩
    · have y' : (f + 1 + (i : Int)) % wd = 0 := V.int.inj (of_decide_eq_true y)
      rw [if_pos y'] at sn
      refine ⟨_, rfl, _, h1, szl (by rw [ivs_len]; omega), same_mut s1 hD, ?_⟩
      rw [upd_same, sn]
      unfold ivs
      rw [List.map_append]
      rfl
    · have y' : ¬ (f + 1 + (i : Int)) % wd = 0 := fun z => y (decide_eq_true (congrArg V.int z))
      rw [if_neg y', List.append_nil] at sn
      rw [sn]
      exact h1
  · rintro H1 ⟨s1, h1⟩
    have en : (f + ((ivs ws).length : Int) - (f + 1)).toNat = ws.length - 1 := by rw [hln]; omega
    rw [en] at h1
    have cin : ∀ z ∈ cutL wd (f + 1) (ws.length - 1), f ≤ z ∧ z ≤ f + (ws.length : Int) := fun z hz => by
      have := cutL_in hz
      omega
    have cl := cutL_len (w := wd) (ws.length - 1) (f + 1)
    have fin := pieces_same (w := wd) (f := f) wn
    rw [← zip_cuts] at fin
    generalize cutL wd (f + 1) (ws.length - 1) = cs at h1 cin cl fin
    refine ⟨_, rfl, szr, fun l2 H2 hl2 s2 h2 => ⟨_, rfl, l2, D, _, _, rfl, rfl, h2, s2 _ _ h1, sz (by show 1 + (ivs cs).length ≤ 100000; rw [ivs_len]; omega), fun sl H3 hsl s3 h3 => ?_⟩⟩
    refine ⟨_, rfl, _, rfl, szr, fun l4 H4 hl4 s4 h4 => ⟨D, l4, _, _, rfl, rfl, s4 _ _ (s3 _ _ (s2 _ _ h1)), h4, sz (by show (ivs cs).length + 1 ≤ 100000; rw [ivs_len]; omega), fun el H5 hel s5 h5 => ⟨_, _, rfl, ?_⟩⟩⟩
    have S := s1.trans (s2.trans (s3.trans (s4.trans s5)))
    have hs5 : H5 sl = some (.lst (ivs (f :: cs))) := s5 _ _ (s4 _ _ h3)
    have he5 : H5 el = some (.lst (ivs (cs ++ [f + (ws.length : Int)]))) := by
      rw [h5, hln]
      unfold ivs
      rw [List.map_append]
      rfl
    have hll : (ivs (f :: cs)).length = (ivs (cs ++ [f + (ws.length : Int)])).length := by
      rw [ivs_len, ivs_len, List.length_append]
      rfl
    refine ⟨_, rfl, _, rfl, sl, el, _, _, rfl, SqL.of hs5, SqL.of he5, fun R hR => lc_zip hll (fun i H' => Same H5 H' ∧ ∃ xs, H' R = some (.lst xs) ∧ xs.length = i ∧ Paired (PieceE H' ix) xs ((((f :: cs).zip (cs ++ [f + (ws.length : Int)])).map (fun p => (p.1, part f ws p.1 p.2))).take i)) ?_ ?_ ?_ ?_⟩
    · exact ⟨same_new hR, [], upd_same, rfl, .nil⟩
    · rintro i H' hi ⟨s6, _⟩
      exact ⟨SqL.of (s6 _ _ hs5), SqL.of (s6 _ _ he5)⟩
    · rintro i x y T' H' hx hy ⟨s6, xs, h6, l6, p6⟩ hT
      have hi : i < (ivs (f :: cs)).length := (List.getElem?_eq_some_iff.mp hx).1
      have hc : (ivs (f :: cs)).length = cs.length + 1 := by rw [ivs_len]; rfl
      have i1 : i < (f :: cs).length := by rw [List.length_cons]; omega
      have i2 : i < (cs ++ [f + (ws.length : Int)]).length := by rw [List.length_append]; show i < cs.length + 1; omega
      rw [ivs_get i1] at hx
      rw [ivs_get i2] at hy
      cases hx
      cases hy
      have m1 : (f :: cs)[i] ∈ f :: cs := List.getElem_mem i1
      have m2 : (cs ++ [f + (ws.length : Int)])[i] ∈ cs ++ [f + (ws.length : Int)] := List.getElem_mem i2
      have zg : (((f :: cs).zip (cs ++ [f + (ws.length : Int)])).map (fun p => (p.1, part f ws p.1 p.2)))[i]? = some ((f :: cs)[i], part f ws (f :: cs)[i] (cs ++ [f + (ws.length : Int)])[i]) := by
        have zz : ((f :: cs).zip (cs ++ [f + (ws.length : Int)]))[i]? = some ((f :: cs)[i], (cs ++ [f + (ws.length : Int)])[i]) := List.getElem?_zip_eq_some.mpr ⟨List.getElem?_eq_getElem i1, List.getElem?_eq_getElem i2⟩
        rw [List.getElem?_map, zz]
        rfl
      generalize (f :: cs)[i] = zx at m1 zg
      generalize (cs ++ [f + (ws.length : Int)])[i] = zy at m2 zg
      have b1 : f ≤ zx ∧ zx ≤ f + (ws.length : Int) := by
        rcases List.mem_cons.mp m1 with rfl | m
        · omega
        · exact cin zx m
      have b2 : f ≤ zy ∧ zy ≤ f + (ws.length : Int) := by
        rcases List.mem_append.mp m2 with m | m
        · exact cin zy m
        · rw [List.mem_singleton.mp m]
          omega
      have s7 : Same H' (upd H' T' (.tup [.int zx, .int zy])) := same_new hT
      have b7 := s7 _ _ (s6 _ _ (S _ _ hb))
      refine ⟨T', _, rfl, SqT.of upd_same, rfl, _, _, rfl, _, _, rfl, rfl, rfl, ?_⟩
      refine ⟨_, rfl, _, rfl, _, rfl, _, rfl, _, rfl, _, _, rfl, rfl, _, rfl, _, rfl, _, rfl, _, _, rfl, rfl, _, rfl, b, _, rfl, b7, fun u H8 s8 h8 => ⟨szr, fun r H9 hr9 s9 h9 => ?_⟩⟩
      have s10 := s7.trans (s8.trans s9)
      have u9 := s9 _ _ h8
      rw [slice_part b1.1 b2.1 b1.2 b2.2] at u9
      have r10 := s10 _ _ h6
      refine ⟨xs, r10, szl (by omega), same_mut (s6.trans s10) hR, _, upd_same, by rw [List.length_append, l6]; rfl, ?_⟩
      have kk := kp_upd (zs := xs ++ [V.ref r]) r10
      exact paired_take_succ (pieces_kp kk (pieces_st s10 p6)) (V.ref r) ⟨r, u, rfl, kk.tup h9, kk.tup u9⟩ zg
    · rintro H' ⟨s6, xs, h6, l6, p6⟩
      refine k R H' xs (S.trans s6) (S.free hR) h6 ?_
      rw [fin]
      have ll : (((f :: cs).zip (cs ++ [f + (ws.length : Int)])).map (fun p => (p.1, part f ws p.1 p.2))).length = (ivs (f :: cs)).length := by
        rw [List.length_map, List.length_zip, List.length_append, ivs_len, List.length_cons]
        show min (cs.length + 1) (cs.length + 1) = cs.length + 1
        omega
      rw [← ll, List.take_length] at p6
      exact p6
end
end Af

set_option Elab.async false
set_option linter.all false
set_option maxRecDepth 100000
set_option maxHeartbeats 4000000
namespace Af
open PySem L2
abbrev s_pieces_of : Stmt := top 19
abbrev N_pieces_of : List Str := ["width", "steps", "pieces", "index", "step"]
theorem sc_pieces_of : FnScope N_pieces_of ["width", "steps"] (defScope s_pieces_of) := ⟨rfl, rfl, rfl, by decide +kernel, rfl, by decide +kernel, by decide +kernel⟩

abbrev s_epochs_of : Stmt := top 21
abbrev N_epochs_of : List Str := ["steps", "epochs", "barriers", "step"]
theorem sc_epochs_of : FnScope N_epochs_of ["steps"] (defScope s_epochs_of) := ⟨rfl, rfl, rfl, by decide +kernel, rfl, by decide +kernel, by decide +kernel⟩

/-- the pieces of one step, of all steps, each with its step's index -/
def oneP (w : Int) (i : Nat) : Stp → List (Int × (Int × List Int))
  | none => []
  | some (f, ws) => (spl w f [] f ws).map fun p => ((i : Int), p)
def allP (w : Int) : Nat → List Stp → List (Int × (Int × List Int))
  | _, [] => []
  | i, s :: r => oneP w i s ++ allP w (i + 1) r
theorem allP_snoc (w : Int) (s : Stp) : ∀ (l : List Stp) (i : Nat), allP w i (l ++ [s]) = allP w i l ++ oneP w (i + l.length) s
  | [], i => by
    show oneP w i s ++ [] = [] ++ oneP w i s
    rw [List.append_nil, List.nil_append]
  | a :: l, i => by
    show oneP w i a ++ allP w (i + 1) (l ++ [s]) = (oneP w i a ++ allP w (i + 1) l) ++ oneP w (i + (l.length + 1)) s
    rw [allP_snoc w s l (i + 1), List.append_assoc, show i + 1 + l.length = i + (l.length + 1) by omega]
theorem allP_take {w : Int} {l : List Stp} {i : Nat} {s : Stp} (h : l[i]? = some s) : allP w 0 (l.take (i + 1)) = allP w 0 (l.take i) ++ oneP w i s := by
  have hi : i < l.length := (List.getElem?_eq_some_iff.mp h).1
  rw [List.take_add_one, h]
  show allP w 0 (l.take i ++ [s]) = _
  rw [allP_snoc, List.length_take, Nat.zero_add, Nat.min_eq_left (Nat.le_of_lt hi)]
def PieceA (H : Hp) (x : V) (p : Int × (Int × List Int)) : Prop := PieceE H p.1 x p.2
theorem pieceA_kp {q : Addr} {H H' : Hp} {xs : List V} {ps : List (Int × (Int × List Int))} (k : Kp q H H') (h : Paired (PieceA H) xs ps) : Paired (PieceA H') xs ps := L2.Paired.mapP h fun _ _ z => PieceE.kp k z
theorem pieceA_st {H H' : Hp} {xs : List V} {ps : List (Int × (Int × List Int))} (k : Same H H') (h : Paired (PieceA H) xs ps) : Paired (PieceA H') xs ps := pieceA_kp (q := 0) (Kp.same k) h
theorem pieceA_of {H : Hp} {ix : Int} : ∀ {xs : List V} {ps : List (Int × List Int)}, Paired (PieceE H ix) xs ps → Paired (PieceA H) xs (ps.map fun p => (ix, p))
  | _, _, .nil => .nil
  | _, _, .cons h t => .cons h (pieceA_of t)
theorem spl_len {w : Int} : ∀ (r acc : List Int) (st pos : Int), (spl w st acc pos r).length ≤ r.length + 1
  | [], _, _, _ => Nat.le_refl _
  | x :: r, acc, st, pos => by
    by_cases c : acc ≠ [] ∧ pos % w = 0
    · rw [spl_cut c, List.length_cons, List.length_cons]
      have := spl_len (w := w) r [x] pos (pos + 1)
      omega
    · rw [spl_go c, List.length_cons]
      have := spl_len (w := w) r (acc ++ [x]) st (pos + 1)
      omega
def sp_partsX : Sp := fun vs H Q _ => ∃ (a ca sa : Addr) (sp : Int) (xs : List V) (sts : List Stp), vs = [.ref a] ∧ H a = some (.tup [.ref ca, .int sp, .ref sa]) ∧ H sa = some (.lst xs) ∧ Paired (StepV H) xs sts ∧ 0 < sp ∧ xs.length ≤ 100 ∧
  (∀ f ws, some (f, ws) ∈ sts → ws.length ≤ 100) ∧ ∀ l H' ys, Same H H' → H l = none → H' l = some (.lst ys) → Paired (PieceA H') ys (allP sp 0 sts) → Q (.ref l) H'
def sp_piecesX : Sp := fun vs H Q _ => ∃ (wd : Int) (a : Addr) (xs : List V) (sts : List Stp), vs = [.int wd, .ref a] ∧ H a = some (.lst xs) ∧ Paired (StepV H) xs sts ∧ 0 < wd ∧ xs.length ≤ 100 ∧ (∀ x ∈ sts, OkS 24 x) ∧
  ∀ l H' ys, Same H H' → H l = none → H' l = some (.lst ys) → Paired (PieceA H') ys (allP wd 0 sts) → Q (.ref l) H'
section
variable {P : Program} {w : World} {K : PySem.W.Frag} {mg : Str → Option Value} {base : Heap}
theorem ok_partsX {f : Addr} {fd : FuncData} (F : Fun K "_law_parts" "_law_parts" s_l_parts f fd) (T : Txt mg) (c_l_split : Cal P w K mg base 1 "_law_split" ["_law_index", "_law_step_here", "_law_span_here"] sp_split) : FnOk P w K mg base CX0 2 f fd ["_law_plan_here"] sp_partsX := by
  refine F.ok sc_l_parts (fun vs H Q E h => ?_) (fun cdv A outer s H vs Q E hr h => ?_)
  · obtain ⟨_, _, _, _, _, _, rfl, _⟩ := h
    rfl
  obtain ⟨a, ca, sa, sp, xs, sts, rfl, ha, hsa, hst, hsp, hxl, hw, k⟩ := h
  refine ⟨_, (pss_cons (ps_set (i := 1) sc_l_parts.nd rfl (Or.inl rfl) (pe_lst' pa_nil))
    (pss_cons (ps_for PassesOwn.never rfl (pi_range1 rfl T.range (pa_cons (pe_callB call_len' (by rfl) T.len (by decide +kernel) (pa_cons (pe_ix ix_seq' (pv 0) pe_int (fun _ _ => rfl)) pa_nil)) pa_nil)) (pg_name (i := 2) sc_l_parts.nd rfl (Or.inl rfl))
      (pss_one (ps_if (pt_cmpR op_notN (pe_ix ix_seq' (pe_ix ix_seq' (pv 0) pe_int (fun _ _ => rfl)) (pv 2) (fun _ _ => rfl)) pe_non (nomark _))
      (pss_one (ps_set (i := 1) sc_l_parts.nd rfl (Or.inl rfl) (pe_op op_cat' (pv 1) (pe_cal c_l_split hr (pa_cons (pv 2) (pa_cons (pe_ix ix_seq' (pe_ix ix_seq' (pv 0) pe_int (fun _ _ => rfl)) (pv 2) (fun _ _ => rfl)) (pa_cons (pe_ix ix_seq' (pv 0) pe_int (fun _ _ => rfl)) pa_nil)))))))
      pss_nil)))
    (pss_one (ps_ret (pv 1))))), ?_⟩
  have hlen := paired_len hst
  refine ⟨szr, fun fl H1 hfl s1 h1 => ?_⟩
  refine ⟨_, rfl, a, _, _, _, rfl, rfl, .inr (s1 _ _ ha), rfl, sa, _, rfl, .inl (s1 _ _ hsa), _, rfl, ?_, ?_, ?_⟩
  · omega
  · omega
  refine for_range (lo := 0) (fun i σ' H' => ∃ fl ys kv, σ' = [some (.ref a), some (.ref fl), kv] ∧ Same H H' ∧ H fl = none ∧ H' fl = some (.lst ys) ∧ ys.length ≤ i * 101 ∧ Paired (PieceA H') ys (allP sp 0 (sts.take i))) ?_ ?_ ?_
  · exact ⟨fl, [], none, rfl, s1, hfl, h1, Nat.zero_le _, .nil⟩
  · rintro i σ' H' hi ⟨fl, ys, kv, rfl, s2, hfl, h2, l1, p2⟩
    have hi' : i < xs.length := by omega
    have hx2 : xs[i]? = some xs[i] := List.getElem?_eq_getElem hi'
    obtain ⟨st, hs1, hs2⟩ := paired_get hst hx2
    have tk := allP_take (w := sp) hs1
    refine ⟨_, rfl, a, _, _, _, rfl, rfl, .inr (s2 _ _ ha), rfl, _, rfl, sa, _, _, _, rfl, rfl, .inl (s2 _ _ hsa), at_of (Int.zero_add _) hx2, rfl, _, rfl, ?_⟩
    cases st with
    | none =>
      have e : xs[i] = V.non := hs2
      rw [e]
      exact ⟨fl, ys, _, rfl, s2, hfl, h2, by omega, by rw [tk]; show Paired _ ys (_ ++ []); rw [List.append_nil]; exact p2⟩
    | some fw =>
      obtain ⟨f, ws⟩ := fw
      obtain ⟨t, b, e, h3, h4⟩ := hs2
      rw [e]
      have hws := hw f ws (List.mem_of_getElem? hs1)
      refine ⟨_, rfl, _, rfl, _, rfl, a, _, _, _, rfl, rfl, .inr (s2 _ _ ha), rfl, _, rfl, sa, _, _, _, rfl, rfl, .inl (s2 _ _ hsa), at_of (Int.zero_add _) (hx2.trans (congrArg some e)), ?_⟩
      refine ⟨_, rfl, a, _, _, _, rfl, rfl, .inr (s2 _ _ ha), rfl, _, f, sp, t, b, ws, rfl, s2 _ _ h3, s2 _ _ h4, hsp, by omega, fun l H3 zs s3 hl h5 p5 => ?_⟩
      have zl : zs.length ≤ 101 := by
        rw [paired_len p5]
        have := spl_len (w := sp) ws [] f f
        omega
      refine ⟨fl, l, _, _, rfl, rfl, s3 _ _ h2, h5, sz (by omega), fun r H4 hr4 s4 h7 => ?_⟩
      rw [Int.zero_add] at p5
      refine ⟨r, ys ++ zs, _, rfl, s2.trans (s3.trans s4), s2.free (s3.free hr4), h7, by rw [List.length_append]; omega, ?_⟩
      rw [tk]
      exact paired_app (pieceA_st (s3.trans s4) p2) (pieceA_st s4 (pieceA_of p5))
  · rintro σ' H' ⟨fl, ys, kv, rfl, s2, hfl, h2, l1, p2⟩
    have e : (xs.length : Int).toNat = sts.length := by rw [← hlen]; exact Int.toNat_natCast _
    first
      | rw [e, List.take_length] at p2
      | rw [hlen, List.take_length] at p2
    exact ⟨_, rfl, k fl H' ys s2 hfl h2 p2⟩
theorem ok_piecesX {f : Addr} {fd : FuncData} (F : Fun K "_pieces_of" "_pieces_of" s_pieces_of f fd) (T : Txt mg) (c_broken : Cal P w K mg base 1 "_broken" ["width", "index", "write"] sp_brokenX) : FnOk P w K mg base CX0 2 f fd ["width", "steps"] sp_piecesX := by
  refine F.ok sc_pieces_of (fun vs H Q E h => ?_) (fun cdv A outer s H vs Q E hr h => ?_)
  · obtain ⟨_, _, _, _, rfl, _⟩ := h
    rfl
  obtain ⟨wd, a, xs, sts, rfl, ha, hst, w0, xl, ok, k⟩ := h
  refine ⟨_, (pss_cons (ps_set (i := 2) sc_pieces_of.nd rfl (Or.inl rfl) (pe_lst' pa_nil))
    (pss_cons (ps_for PassesOwn.never rfl (pi_enum rfl T.enumerate (pa_cons (pv 1) pa_nil)) (pg_tup rfl (pgs_cons (pg_name (i := 3) sc_pieces_of.nd rfl (Or.inl rfl)) (pgs_cons (pg_name (i := 4) sc_pieces_of.nd rfl (Or.inl rfl)) pgs_nil)))
      (pss_one (ps_if (pt_cmpR op_notN (pv 4) pe_non (nomark _))
      (pss_one (ps_expr (pe_bm PySem.F.plainAttrs_list PySem.F.slot_list_extend PySem.F.type_list_extend mt_extend (pv 2) (pa_cons (pe_cal c_broken hr (pa_cons (pv 0) (pa_cons (pv 3) (pa_cons (pv 4) pa_nil)))) pa_nil))))
      pss_nil)))
    (pss_one (ps_ret (pv 2))))), ?_⟩
  refine ⟨szr, fun pl H1 hpl s1 h1 => ?_⟩
  have hlen := paired_len hst
  refine ⟨_, rfl, a, xs, rfl, SqL.of (s1 _ _ ha), for_enum (K := K) (a := a) (xs := xs) (fun i σ' H' => ∃ ys v1 v2, σ' = [some (.int wd), some (.ref a), some (.ref pl), v1, v2] ∧ Same H H' ∧ H' pl = some (.lst ys) ∧ ys.length ≤ i * 25 ∧ Paired (PieceA H') ys (allP wd 0 (sts.take i))) ?_ ?_ ?_ ?_⟩
  · exact ⟨[], none, none, rfl, s1, h1, Nat.zero_le _, .nil⟩
  · rintro i σ' H' hi ⟨ys, v1, v2, rfl, s2, _⟩
    exact SqL.of (s2 _ _ ha)
  · rintro i x T' σ' H' hx ⟨ys, v1, v2, rfl, s2, h2, l2, p2⟩ hT
    have hi : i < xs.length := (List.getElem?_eq_some_iff.mp hx).1
    obtain ⟨st, hs1, hs2⟩ := paired_get hst hx
    have s3 : Same H' (upd H' T' (.tup [.int (i : Nat), x])) := same_new hT
    have tk := allP_take (w := wd) hs1
    refine ⟨T', _, rfl, SqT.of upd_same, rfl, _, _, rfl, _, _, rfl, rfl, ?_⟩
    cases st with
    | none =>
      have e : x = .non := hs2
      subst e
      exact ⟨_, rfl, rfl, _, rfl, ys, _, _, rfl, s2.trans s3, s3 _ _ h2, by omega, by rw [tk]; show Paired _ ys (_ ++ []); rw [List.append_nil]; exact pieceA_st s3 p2⟩
    | some fw =>
      obtain ⟨f, ws⟩ := fw
      obtain ⟨t, b, e, h3, h4⟩ := hs2
      subst e
      obtain ⟨o1, o2, o3, o4⟩ := ok _ (List.mem_of_getElem? hs1)
      have s4 := s2.trans s3
      refine ⟨_, rfl, rfl, _, rfl, ?_⟩
      refine ⟨_, rfl, .inl ⟨rfl, _, SqL.of (s3 _ _ h2)⟩, ?_⟩
      refine ⟨_, rfl, _, rfl, _, rfl, wd, (i : Int), f, t, b, ws, rfl, s4 _ _ h3, s4 _ _ h4, w0, o1, by omega, o2, by omega, fun l H5 zs s5 hl h5 p5 => ?_⟩
      have h6 := s5 _ _ (s3 _ _ h2)
      have zl : zs.length ≤ 25 := by
        rw [paired_len p5]
        have := spl_len (w := wd) ws [] f f
        omega
      refine ⟨pl, l, ys, zs, rfl, rfl, h6, h5, sz (by omega), ?_⟩
      have kk := kp_upd (zs := ys ++ zs) h6
      refine ⟨ys ++ zs, _, _, rfl, same_mut (s4.trans s5) hpl, upd_same, by rw [List.length_append]; omega, ?_⟩
      rw [tk]
      exact paired_app (pieceA_kp kk (pieceA_st (s3.trans s5) p2)) (pieceA_kp kk (pieceA_of p5))
  · rintro σ' H' ⟨ys, v1, v2, rfl, s2, h2, l2, p2⟩
    rw [hlen, List.take_length] at p2
    exact ⟨_, rfl, k pl H' ys s2 hpl h2 p2⟩
end
end Af

set_option Elab.async false
set_option linter.all false
set_option maxRecDepth 100000
namespace Af
open PySem PySem.Spec PyProof.Rows L2
/-! a def that runs where no repr is under way (repr asks it), and repr itself -/
section
variable {P : Program} {w : World} {K : PySem.W.Frag} {mg : Str → Option Value} {base : Heap}
structure FnG (P : Program) (w : World) (K : PySem.W.Frag) (mg : Str → Option Value) (base : Heap) (k : Nat) (f : Addr) (fd : FuncData) (ps : List Str) (sp : Sp) : Prop where
  many : ∀ (xs : List V) (G : Hp) (R : VK) (E : XK), sp xs G R E → xs.length = ps.length
  goes : ∀ (A : Around) (out : List Env) (s : Shared) (G : Hp) (ar : Args) (us : List Value) (xs : List V) (R : VK) (E : XK), Room k A → A.guards = some [] → Env0 P w K mg base A out s G → BindsTo s fd ar (ps.zip us) → Vals xs us → sp xs G R E →
    codeAny (model P w) A (.call (.ref f) ar) (CR CX0 out P w G s R E) s
theorem okG {x qual : Str} {st : Stmt} {f : Addr} {fd : FuncData} {N ps : List Str} {k : Nat} {sp : Sp} (F : Fun K x qual st f fd) (S : FnScope N ps (defScope st)) (many : ∀ (xs : List V) (G : Hp) (R : VK) (E : XK), sp xs G R E → xs.length = ps.length)
    (body : ∀ (cv : Value) (A : Around) (out : List Env) (s : Shared) (G : Hp) (xs : List V) (R : VK) (E : XK), Room k (A.deeper (envOfC qual (defScope st) s.heap.objs.size f cv)) → A.guards = some [] → sp xs G R E →
      ∃ t, PSs (cxOf CX0 P w K mg base N qual (defScope st) f cv A out s G E).nox (defBody st) t ∧ t { nx := fun _ G' => R .non G', rt := R } (L2.start N xs) G) : FnG P w K mg base (k + 1) f fd ps sp := by
  obtain ⟨oc, od, kV, doc, pm, an, cv, ct, osl, rfl, lk, code⟩ := F.ex
  refine ⟨many, fun A out s G ar us xs R E room grd env bind vals hs => ?_⟩
  have nl := many _ _ _ _ hs
  have KI : K.In s.heap := env.mod.kin.keeps fun b o e => (env.bs b o e).1
  have NL : s.heap.NoLimit := env.mod.nolimit.keeps fun b o e => (env.bs b o e).1
  have kinds : ∀ y ∈ ps.zip us, (defScope st).names.lookup y.1 = some .local ∨ ((defScope st).names.lookup y.1 = some .cell ∧ ((cellsFrom (s.heap.objs.size + 1) (defScope st).names []).lookup y.1).isSome = true) := by
    rintro ⟨n, v⟩ hy
    rcases S.par n (List.of_mem_zip hy).1 with q | q
    · exact .inl q
    · exact .inr ⟨q, PySem.W.cellsFrom_some _ _ _ (.inl q)⟩
  refine codeAny_call_function room.depth (KI _ _ lk) rfl S.co S.gen rfl (PySem.W.codeRec_of KI code) (bind _ _ _ _ (wpAny_newFunctionEnv_cells S.kind kinds fun en he s1 z => ?_))
  subst he
  refine ⟨NL.keeps z.toInCall.keep, codeAny_func ?_⟩
  obtain ⟨t, ht, hq⟩ := body cv A out s G xs R E (room.deeper _) grd hs
  have I := inv_start (CX := CX0) (E := E) (N := N) (cd := cv) (f := f) (qual := qual) S room.hd env nl vals z
  refine wpAny_mono (ht.nox.run [] s1 (L2.start N xs) G _ I hq) (fun fl s' hz => ?_) fun e s' hz => hz
  have last : ∀ {σ : L2.St} {G' : Hp} {v : V} {u : Value}, Inv (cxOf CX0 P w K mg base N qual (defScope st) f cv A out s G E) [] σ G' s' → RelV v u → R v G' → CE out P w G s R u s' := fun {σ G' v u} J rv q => ⟨v, G', J.os, J.bare, J.base, J.hok, rv, q⟩
  match fl, hz with
  | .ret u, ⟨v, σ, G', J, rv, q⟩ => exact last J rv q
  | .next, ⟨σ, G', J, q⟩ => exact last (v := V.non) (u := Value.none) J rfl q
  | .brk, ⟨_, _, _, q⟩ => exact q.elim
  | .cont, ⟨_, _, _, q⟩ => exact q.elim
/-- the law, called behind the top -/
theorem callG {P : Program} {w : World} {K : PySem.W.Frag} {mg mb : Str → Option Value} {k : Nat} {fa a : Addr} {fd : FuncData} {x : Str} {sp : Sp} {s : Shared} {us : List Value} {ns : List Int} (KI : K.In s.heap) (hns : s.heap.Ns mainGlobals mg) (hb : s.heap.Ns builtinsNs mb)
    (hbb : ∀ n : Str, n ≠ "__name__" → mb n = bootBuiltins n) (NL : s.heap.NoLimit) (gn : s.gens = #[]) (ha : s.heap.get? a = some { cls := .type "list", data := .seq us.toArray }) (hi : IntsAre us ns) (short : ns.length ≤ sizeLine) (room : Room k callerA)
    (F : ∀ base : Heap, K.In base → base.Ns mainGlobals mg → FnG P w K mg base k fa fd [x] sp) (bind : ∀ (s : Shared) (u : Value), BindsTo s fd ⟨[u], []⟩ [(x, u)])
    (hs : ∀ G : Hp, Only G → SqL K G a (ns.map V.int) → sp [.ref a] G (fun v _ => v = .bl true) fun _ _ _ => False) :
    codeAny (model P w) callerA (.call (.ref fa) ⟨[.ref a], []⟩) (fun r s' => r = .ok (.ret (.bool true)) ∧ OldK s.heap s'.heap ∧ s'.os = s.os ∧ AllBare s'.gens) s := by
  have vals := vals_ints hi
  have many := hi.length
  have main : ∀ G : Hp, Only G → SqL K G a (ns.map V.int) → HOk P w G s.heap → (∀ b, G b ≠ none → b = a) → (G a ≠ none → K.lookup a = none) →
      codeAny (model P w) callerA (.call (.ref fa) ⟨[.ref a], []⟩) (fun r s' => r = .ok (.ret (.bool true)) ∧ OldK s.heap s'.heap ∧ s'.os = s.os ∧ AllBare s'.gens) s := by
    intro G hO hS ok one free
    have keep : ∀ {b : Addr} {o : Obj}, s.heap.get? b = some o → G b = none → (hidT s.heap G).get? b = some o := fun z n => hidT_get z n
    have dicts : ∀ {b : Addr} {o : Obj} {es : Array DictEntry} {ep : Nat}, s.heap.get? b = some o → o.data = .dict es ep → G b = none := by
      intro b o es ep z dz
      cases q : G b with
      | none => rfl
      | some u =>
        have y := one b (by rw [q]; simp)
        subst y
        rw [ha] at z
        cases z
        have dz' : Data.seq us.toArray _ = Data.dict es ep := dz
        cases dz'
    have spaces : ∀ {b : Addr} {m : Str → Option Value}, s.heap.Ns b m → (hidT s.heap G).Ns b m := by
      rintro b m ⟨o, es, ep, z, dz, r⟩
      exact ⟨o, es, ep, keep z (dicts z dz), dz, r⟩
    have KB : K.In (hidT s.heap G) := by
      intro b o z
      refine keep (KI b o z) ?_
      cases q : G b with
      | none => rfl
      | some u =>
        have y := one b (by rw [q]; simp)
        subst y
        rw [free (by rw [q]; simp)] at z
        cases z
    have env : Env0 P w K mg (hidT s.heap G) callerA [] s G := by
      refine ⟨rfl, ⟨KB, spaces hns, ⟨mb, spaces hb, hbb⟩, ?_⟩, fun b o z => of_hidT z, Nat.le_of_eq (hidT_size _ _), trivial, fun b z => absurd (show b ∈ ([] : List Addr) from z) (by simp), ok, .of_eq gn⟩
      obtain ⟨mc, y1, y2⟩ := NL
      exact ⟨mc, spaces y1, y2⟩
    refine codeAny_mono ((F _ KB (spaces hns)).goes callerA [] s G ⟨[.ref a], []⟩ [.ref a] [.ref a] _ _ room rfl env (bind s (.ref a)) (.cons rfl .nil) (hs G hO hS)) fun r s' z => ?_
    match r, z with
    | .ok (.ret u), z =>
      obtain ⟨v, G', hos, bare, un, ok', rv, q⟩ := z
      have q' : v = .bl true := q
      subst q'
      obtain rfl : u = Value.bool true := rv
      refine ⟨rfl, OldK.of_keep fun b o y => ?_, hos, bare⟩
      cases q : G b with
      | none => exact un.keep b o y q (by intro m; exact absurd (show b ∈ ([] : List Addr) from m) (by simp)) (by simp)
      | some u =>
        rcases hO b with z | ⟨ob, xs, z⟩
        · rw [q] at z
          cases z
        · obtain ⟨y1, _⟩ := ok b _ z
          obtain ⟨y2, _⟩ := ok' b _ (un.frzs b ob _ z)
          rw [y] at y1
          cases y1
          exact y2
    | .error e, z => exact (show False from z).elim
    | .ok .next, z => exact (show False from z).elim
    | .ok .brk, z => exact (show False from z).elim
    | .ok .cont, z => exact (show False from z).elim
  cases hk : K.lookup a with
  | some o =>
    have z := KI a o hk
    rw [ha] at z
    cases z
    exact main (fun _ => none) (fun _ => .inl rfl) (.inr ⟨_, us.toArray, _, hk, rfl, rfl, rfl, by rw [List.size_toArray, many]; exact short, by simpa using vals⟩) (fun b u y => by cases (show (none : Option HO) = some u from y)) (fun b y => absurd rfl y) fun y => absurd rfl y
  | none =>
    have at_ : ∀ {b : Addr} {u : HO}, (if b = a then some (HO.frz { cls := .type "list", data := .seq us.toArray } (.lst (ns.map V.int))) else none) = some u → b = a ∧ u = .frz { cls := .type "list", data := .seq us.toArray } (.lst (ns.map V.int)) := by
      intro b u y
      by_cases q : b = a
      · rw [if_pos q] at y
        exact ⟨q, (Option.some.inj y).symm⟩
      · rw [if_neg q] at y
        cases y
    refine main (fun b => if b = a then some (.frz { cls := .type "list", data := .seq us.toArray } (.lst (ns.map V.int))) else none) (fun b => ?_) (.inl (.inr ⟨{ cls := .type "list", data := .seq us.toArray }, if_pos rfl⟩)) (fun b u y => ?_) (fun b y => ?_) fun _ => hk
    · by_cases q : b = a
      · exact .inr ⟨_, _, if_pos q⟩
      · exact .inl (if_neg q)
    · obtain ⟨rfl, rfl⟩ := at_ y
      exact ⟨ha, by rw [List.length_map]; exact short, us, _, vals, ha⟩
    · by_cases q : b = a
      · exact q
      · exact absurd (if_neg q) y
theorem walkG {l : PySem.W.OpenLaw} {n k : Nat} {q : Program} {loose : List Str} {XP : (Str → Option Value) → Heap → Prop} {YP : World → Heap → Prop} {d : DefRec} {K : Params → PySem.W.Frag} {sp : World → Sp} {x : Str} (hn : l.most = some n) (small : n ≤ sizeLine) (hd : d.params.defaults = []) (room : Room k callerA)
    (hY : ∀ (w : World) (h : Heap), YP w h → (K w.params).In h)
    (F : ∀ (w : World) (mg : Str → Option Value) (fa : Addr) (h : Heap), (K w.params).In h → h.Ns mainGlobals mg → mg d.name = some (.ref fa) →
      ∃ fd : FuncData, (∀ (s : Shared) (u : Value), BindsTo s fd ⟨[u], []⟩ [(x, u)]) ∧ ∀ base : Heap, (K w.params).In base → base.Ns mainGlobals mg → FnG l.prog w (K w.params) mg base k fa fd [x] (sp w))
    (hs : ∀ (w : World) (G : Hp) (a : Addr) (ns : List Int), ns.length ≤ n → Only G → SqL (K w.params) G a (ns.map V.int) → sp w [.ref a] G (fun v _ => v = .bl true) fun _ _ _ => False) :
    PySem.W.WalkO q loose XP YP l.row.toRowW d [] (fun f vs => PySem.call f vs) := by
  refine Att.attach_call hn hd fun w s₀ s₁ mg mb fa o pm cd doc a us ns G Y ho hq hcd hmg hobj hints hlen hg => ?_
  have KI := hY w _ Y
  obtain ⟨fd, hb, hF⟩ := F w mg fa _ KI G.T.g hmg
  exact callG KI G.T.g G.T.b G.T.builtins G.T.nolimit hg hobj hints (Nat.le_trans hlen small) room hF hb fun H hO hS => hs w H a ns hlen hO hS
end
end Af

set_option Elab.async false
set_option linter.all false
set_option maxRecDepth 100000
namespace Af
open PySem PySem.Spec PyProof.Rows L2
/-! data with empty dicts within, and its repr -/
mutual
inductive Dq (K : PySem.W.Frag) (H : Hp) : V → PyData → Prop
  | non : Dq K H .non .none
  | bl (b : Bool) : Dq K H (.bl b) (.bool b)
  | int (i : Int) : Dq K H (.int i) (.int i)
  | str (x : Str) : Dq K H (.str x) (.str x)
  | lst {a : Addr} {xs : List V} {ds : List PyData} : H a = some (.lst xs) → DqAll K H xs ds → Dq K H (.ref a) (.list ds)
  | tup {a : Addr} {xs : List V} {ds : List PyData} : H a = some (.tup xs) → DqAll K H xs ds → Dq K H (.ref a) (.tuple ds)
  | dic {a : Addr} : H a = some (.dK []) → Dq K H (.ref a) (.dict [])
inductive DqAll (K : PySem.W.Frag) (H : Hp) : List V → List PyData → Prop
  | nil : DqAll K H [] []
  | cons {v : V} {vs : List V} {d : PyData} {ds : List PyData} : Dq K H v d → DqAll K H vs ds → DqAll K H (v :: vs) (d :: ds)
end
section
variable {X : Cx} {pins : List (Addr × Obj)} {σ : L2.St} {H : Hp} {s : Shared}
mutual
/-- such data is read, and shown whatever calls are under way -/
theorem Dq.sees (I : Inv X pins σ H s) : ∀ (d : PyData) (v : V) (u : Value), Dq X.K H v d → RelV v u → d.showable = true → d.shown.length ≤ sizeLine →
    ∃ as bs, Reads s.heap u d as ∧ ReadAtMost s.heap d.depth bs ∧ ReprK X.prog X.w bs s.heap d.depth u d.shown
  | .none, _, _, h, r, sh, sz => by
    cases h
    cases r
    obtain ⟨bs, h1, h2⟩ := ReprK.of_reads (prog := X.prog) (w := X.w) (h₀ := s.heap) Reads.none sh (fun z => by cases z) sz
    exact ⟨_, bs, Reads.none, h1, h2⟩
  | .bool b, _, _, h, r, sh, sz => by
    cases h
    cases r
    obtain ⟨bs, h1, h2⟩ := ReprK.of_reads (prog := X.prog) (w := X.w) (h₀ := s.heap) (Reads.bool b) sh (fun z => by cases z) sz
    exact ⟨_, bs, Reads.bool b, h1, h2⟩
  | .int i, _, _, h, r, sh, sz => by
    cases h
    obtain ⟨t, rfl⟩ := r
    obtain ⟨bs, h1, h2⟩ := ReprK.of_reads (prog := X.prog) (w := X.w) (h₀ := s.heap) (Reads.int i t) sh (fun z => by cases z) sz
    exact ⟨_, bs, Reads.int i t, h1, h2⟩
  | .str x, _, _, h, r, sh, sz => by
    cases h
    obtain ⟨t, rfl⟩ := r
    obtain ⟨bs, h1, h2⟩ := ReprK.of_reads (prog := X.prog) (w := X.w) (h₀ := s.heap) (Reads.str x t) sh (fun z => by cases z) sz
    exact ⟨_, bs, Reads.str x t, h1, h2⟩
  | .list ds, _, _, h, r, sh, sz => by
    cases h with
    | @lst a xs _ hs ha =>
      cases r
      obtain ⟨its, rv, ⟨o, n, ho, hc, _, hd⟩, _⟩ := I.list (SqL.of hs)
      have sz' : (listText (PyData.shownAll ds)).length ≤ sizeLine := by simpa only [PyData.shown] using sz
      obtain ⟨as, bs, hr, hb, hk⟩ := Dq.seesAll I ds _ its ha rv (by simpa [PyData.showable] using sh) fun t ht => Nat.le_trans (listText_mem_le ht) sz'
      have rd : Reads s.heap (.ref a) (.list ds) _ := .list ho hc hd hr
      have new : a ∉ bs := not_mem_of_deeper rd (by simp only [PyData.depth]; omega) hb
      refine ⟨_, a :: bs, rd, ReadAtMost.cons rd (by simp only [PyData.depth]; omega) hb, ?_⟩
      simp only [PyData.depth, PyData.shown]
      cases its with
      | nil =>
        cases hr
        simp only [PyData.shownAll, listText_nil]
        exact ReprK.listEmpty ho hc hd
      | cons x l => exact ReprK.list ho hc hd new (by simpa using hk.length_eq) fun i y e => hk.item i y (by simpa using e)
  | .tuple ds, _, _, h, r, sh, sz => by
    cases h with
    | @tup a xs _ hs ha =>
      cases r
      obtain ⟨its, rv, ⟨o, ho, hc, n, hd⟩, _⟩ := I.tuple (SqT.of hs)
      have sz' : (tupleText (PyData.shownAll ds)).length ≤ sizeLine := by simpa only [PyData.shown] using sz
      obtain ⟨as, bs, hr, hb, hk⟩ := Dq.seesAll I ds _ its ha rv (by simpa [PyData.showable] using sh) fun t ht => Nat.le_trans (tupleText_mem_le ht) sz'
      have rd : Reads s.heap (.ref a) (.tuple ds) _ := .tuple ho hc hd hr
      have new : a ∉ bs := not_mem_of_deeper rd (by simp only [PyData.depth]; omega) hb
      refine ⟨_, a :: bs, rd, ReadAtMost.cons rd (by simp only [PyData.depth]; omega) hb, ?_⟩
      simp only [PyData.depth, PyData.shown]
      exact ReprK.tuple ho hc hd new hk
  | .dict kvs, _, _, h, r, sh, sz => by
    cases h with
    | @dic a ha =>
      cases r
      obtain ⟨_, hne, vs, rv, o, es, ep, h1, h2, h3, _, h4, _⟩ := dk_of I.hok ha
      cases rv
      have e : es.toList = [] := by
        cases q : es.toList with
        | nil => rfl
        | cons y l =>
          rw [q] at h4
          cases h4
      have rd : Reads s.heap (.ref a) (.dict []) ([a] ++ []) := Reads.dict (kvs := []) (as := []) (bs := []) h1 h2.1 h3 (by rw [e]; exact .nil) (by rw [e]; exact .nil)
      obtain ⟨bs, h5, h6⟩ := ReprK.of_reads (prog := X.prog) (w := X.w) (h₀ := s.heap) rd sh (fun _ z => by
        have z' : sysModules ∈ [a] := z
        rw [← List.mem_singleton.mp z'] at hne
        exact absurd hne (by simp)) sz
      exact ⟨_, bs, rd, h5, h6⟩
theorem Dq.seesAll (I : Inv X pins σ H s) : ∀ (ds : List PyData) (vs : List V) (us : List Value), DqAll X.K H vs ds → Vals vs us → PyData.showableAll ds = true → (∀ t ∈ PyData.shownAll ds, t.length ≤ sizeLine) →
    ∃ as bs, ReadsAll s.heap us ds as ∧ ReadAtMost s.heap (PyData.depthAll ds) bs ∧ ReprAllK X.prog X.w bs s.heap (PyData.depthAll ds) us (PyData.shownAll ds)
  | [], _, _, h, r, _, _ => by
    cases h
    cases r
    refine ⟨_, [], ReadsAll.nil, ⟨fun b z => (by simp at z), ?_⟩⟩
    simp only [PyData.shownAll]
    exact .nil
  | d :: ds, _, _, h, r, sh, sz => by
    cases h with
    | cons h1 h2 =>
      cases r with
      | cons r1 r2 =>
        have sh' : d.showable = true ∧ PyData.showableAll ds = true := by simpa [PyData.showableAll] using sh
        obtain ⟨a1, b1, q1, m1, k1⟩ := Dq.sees I d _ _ h1 r1 sh'.1 (sz _ (by simp only [PyData.shownAll]; exact List.mem_cons_self))
        obtain ⟨a2, b2, q2, m2, k2⟩ := Dq.seesAll I ds _ _ h2 r2 sh'.2 fun t ht => sz t (by simp only [PyData.shownAll]; exact List.mem_cons_of_mem _ ht)
        refine ⟨_, b1 ++ b2, ReadsAll.cons q1 q2, fun b hb => ?_, ?_⟩
        · simp only [PyData.depthAll]
          rcases List.mem_append.mp hb with hb | hb
          · obtain ⟨d', a', r', y⟩ := m1 b hb
            exact ⟨d', a', r', by omega⟩
          · obtain ⟨d', a', r', y⟩ := m2 b hb
            exact ⟨d', a', r', by omega⟩
        · simp only [PyData.depthAll, PyData.shownAll]
          refine .cons ((k1.more fun b hb => List.mem_append.mpr (.inl hb)).level_le (by omega)) (k2.more_le (fun b hb => List.mem_append.mpr (.inr hb)) (by omega))
end
def rRepr (K : PySem.W.Frag) : List V → Hp → VK → Prop := fun xs H Q => ∃ (a : Addr) (vs : List V) (ds : List PyData), xs = [.ref a] ∧ H a = some (.tup vs) ∧ DqAll K H vs ds ∧ PyData.showableAll ds = true ∧ PyData.depthAll ds ≤ 60 ∧ (PyData.tuple ds).shown.length ≤ sizeLine ∧ Q (.str (PyData.tuple ds).shown) H
/-- repr of a tuple of data -/
theorem call_repr' (hg : X.A.guards = some []) (hu : X.A.units + 64 < cLine) : CallR X (.builtin "repr") (rRepr X.K) := by
  intro pins s σ H xs us Q I r h
  obtain ⟨a, vs, ds, rfl, hs, hd, sh, dp, sz, q⟩ := h
  obtain ⟨u, rfl, ru⟩ := vals1 r
  cases (show u = Value.ref a from ru)
  obtain ⟨its, rv, ⟨o, ho, hc, n, hdd⟩, _⟩ := I.tuple (SqT.of hs)
  have sz' : (tupleText (PyData.shownAll ds)).length ≤ sizeLine := by simpa only [PyData.shown] using sz
  obtain ⟨as, bs, hr, hb, hk⟩ := Dq.seesAll I ds vs its hd rv sh fun t ht => Nat.le_trans (tupleText_mem_le ht) sz'
  have rd : Reads s.heap (.ref a) (.tuple ds) _ := .tuple ho hc hdd hr
  have new : a ∉ bs := not_mem_of_deeper rd (by simp only [PyData.depth]; omega) hb
  refine call_repr_slot (T := "tuple") (by omega) ⟨o, ho, hc⟩ PySem.F.slot_tuple_repr (call_tuple_reprK ho hc hdd new hk hg (fun b _ => Clear.nil b) (by show X.A.units + 1 + (PyData.depthAll ds + 1) < cLine; omega) (fun _ _ e => e) (fun h' u tk keep => ?_) sz')
  refine ⟨_, _, rfl, .str (PyData.tuple ds).shown, H, I.kept keep, ⟨u, ?_⟩, q⟩
  simp only [PyData.shown]
end
end Af

set_option Elab.async false
set_option linter.all false
set_option maxRecDepth 100000
namespace Af
open PySem PySem.Spec PyProof.Rows L2
/-! what the program's questions answer, told of data -/
def idxD (m : Int) : PyData → Bool
  | .int i => decide (0 ≤ i) && decide (i < m)
  | _ => false
def widthD : PyData → Bool
  | .int i => decide (1 ≤ i) && decide (i ≤ 24)
  | _ => false
def worthsD : PyData → Bool
  | .tuple ds => !ds.isEmpty && ds.all (idxD 8)
  | _ => false
def lenD : PyData → Nat
  | .tuple ds => ds.length
  | .list ds => ds.length
  | _ => 0
def contentD (d : PyData) : Bool := worthsD d && decide (lenD d ≤ 24)
def addD (m : Int) (n : Nat) : PyData → Bool
  | .int i => decide (i + (n : Int) ≤ m)
  | _ => false
def stepQ (m : Int) : PyData → Bool
  | .none => true
  | .tuple [f, ws] => idxD m f && worthsD ws && addD m (lenD ws) f
  | _ => false
def stepsQ (m : Int) : PyData → Bool
  | .list ds => ds.all (stepQ m)
  | _ => false
section
variable {K : PySem.W.Frag} {H : Hp}
theorem DqAll.len : ∀ {xs : List V} {ds : List PyData}, DqAll K H xs ds → xs.length = ds.length
  | _, _, .nil => rfl
  | _, _, .cons _ t => by
    rw [List.length_cons, List.length_cons, t.len]
theorem dq_idx {x : V} {d : PyData} (h : Dq K H x d) (m : Int) : idxB m x = idxD m d := by
  cases h <;> rfl
theorem dq_width {x : V} {d : PyData} (h : Dq K H x d) : widthB x = widthD d := by
  cases h <;> rfl
theorem dq_add {x : V} {d : PyData} (h : Dq K H x d) (m : Int) (n : Nat) : addB m n x = addD m n d := by
  cases h <;> rfl
theorem dq_all {m : Int} : ∀ {xs : List V} {ds : List PyData}, DqAll K H xs ds → xs.all (idxB m) = ds.all (idxD m)
  | _, _, .nil => rfl
  | _, _, .cons h t => by
    rw [List.all_cons, List.all_cons, dq_all t, dq_idx h]
theorem dq_empty {xs : List V} {ds : List PyData} (h : DqAll K H xs ds) : xs.isEmpty = ds.isEmpty := by
  cases h <;> rfl
theorem dq_len {x : V} {d : PyData} (h : Dq K H x d) : lenB H x = lenD d := by
  cases h with
  | lst e t => simp only [lenB, e, lenD]; exact t.len
  | tup e t => simp only [lenB, e, lenD]; exact t.len
  | dic e => simp only [lenB, e, lenD]
  | _ => rfl
theorem dq_worths {x : V} {d : PyData} (h : Dq K H x d) : worthsB H x = worthsD d := by
  cases h with
  | lst e t => simp only [worthsB, e, worthsD]
  | tup e t => simp only [worthsB, e, worthsD]; rw [dq_empty t, dq_all t]
  | dic e => simp only [worthsB, e, worthsD]
  | _ => rfl
theorem dq_content {x : V} {d : PyData} (h : Dq K H x d) : contentB H x = contentD d := by
  unfold contentB contentD
  rw [dq_worths h, dq_len h]
theorem dq_step {x : V} {d : PyData} (h : Dq K H x d) (m : Int) : stepB H m x = stepQ m d := by
  cases h with
  | non => rfl
  | lst e t => simp only [stepB, e, stepQ]
  | dic e => simp only [stepB, e, stepQ]
  | tup e t =>
    cases t with
    | nil => simp only [stepB, e, stepQ]
    | cons h1 t =>
      cases t with
      | nil => simp only [stepB, e, stepQ]
      | cons h2 t =>
        cases t with
        | nil =>
          simp only [stepB, e, stepQ]
          rw [dq_idx h1, dq_worths h2, dq_len h2, dq_add h1]
        | cons h3 t => simp only [stepB, e, stepQ]
  | _ => rfl
theorem dq_stepAll {m : Int} : ∀ {xs : List V} {ds : List PyData}, DqAll K H xs ds → xs.all (stepB H m) = ds.all (stepQ m)
  | _, _, .nil => rfl
  | _, _, .cons h t => by
    rw [List.all_cons, List.all_cons, dq_stepAll t, dq_step h]
theorem dq_steps {x : V} {d : PyData} (h : Dq K H x d) (m : Int) : stepsB H m x = stepsQ m d := by
  cases h with
  | lst e t => simp only [stepsB, e, stepsQ]; exact dq_stepAll t
  | tup e t => simp only [stepsB, e, stepsQ]
  | dic e => simp only [stepsB, e, stepsQ]
  | _ => rfl
theorem dq_ty {x : V} {d : PyData} (h : Dq K H x d) : ∃ n, Ty K H x n := by
  cases h with
  | non => exact ⟨_, .non, by decide, fun _ _ _ e => by cases e⟩
  | bl b => exact ⟨_, .bl b, by decide, fun _ _ _ e => by cases e⟩
  | int i => exact ⟨_, .int i, by decide, fun _ _ _ e => by cases e⟩
  | str z => exact ⟨_, .str z, by decide, fun _ _ _ e => by cases e⟩
  | lst e t => exact ⟨_, .lst e, by decide, fun b o u z q => by cases z; rw [e] at q; cases q⟩
  | tup e t => exact ⟨_, .tup e, by decide, fun b o u z q => by cases z; rw [e] at q; cases q⟩
  | dic e => exact ⟨_, .dK e, by decide, fun b o u z q => by cases z; rw [e] at q; cases q⟩
theorem DqAll.mem : ∀ {xs : List V} {ds : List PyData} {y : V}, DqAll K H xs ds → y ∈ xs → ∃ d, d ∈ ds ∧ Dq K H y d
  | _, _, _, .nil, h => by simp at h
  | _, _, y, .cons r t, h => by
    rcases List.mem_cons.mp h with rfl | h
    · exact ⟨_, List.mem_cons_self, r⟩
    · obtain ⟨d, h1, h2⟩ := t.mem h
      exact ⟨d, List.mem_cons_of_mem _ h1, h2⟩
mutual
theorem Dq.same {H' : Hp} (s : Same H H') : ∀ (d : PyData) (x : V), Dq K H x d → Dq K H' x d
  | .none, _, h => by cases h; exact .non
  | .bool _, _, h => by cases h; exact .bl _
  | .int _, _, h => by cases h; exact .int _
  | .str _, _, h => by cases h; exact .str _
  | .list ds, _, h => by
    cases h with
    | lst e t => exact .lst (s _ _ e) (DqAll.same s ds _ t)
  | .tuple ds, _, h => by
    cases h with
    | tup e t => exact .tup (s _ _ e) (DqAll.same s ds _ t)
  | .dict _, _, h => by
    cases h with
    | dic e => exact .dic (s _ _ e)
theorem DqAll.same {H' : Hp} (s : Same H H') : ∀ (ds : List PyData) (xs : List V), DqAll K H xs ds → DqAll K H' xs ds
  | [], _, h => by cases h; exact .nil
  | d :: ds, _, h => by
    cases h with
    | cons h1 h2 => exact .cons (Dq.same s d _ h1) (DqAll.same s ds _ h2)
end
/-! small data: to a depth, lists and tuples of at most 45 parts, short texts -/
def flatD : PyData → Bool
  | .none | .bool _ => true
  | .int i => decide (i.natAbs.log2 < 1920) && decide ((toString i : Str).length ≤ 45)
  | .str x => decide ((reprText x).length ≤ 45)
  | .dict kvs => kvs.isEmpty
  | _ => false
def Sm : Nat → PyData → Prop
  | 0, d => flatD d = true
  | n + 1, d => flatD d = true ∨ ∃ ds, (d = .list ds ∨ d = .tuple ds) ∧ ds.length ≤ 45 ∧ ∀ y ∈ ds, Sm n y
theorem Sm.mono {d : PyData} : ∀ {n : Nat}, Sm n d → Sm (n + 1) d
  | 0, h => .inl h
  | n + 1, h => by
    rcases h with h | ⟨ds, h1, h2, h3⟩
    · exact .inl h
    · exact .inr ⟨ds, h1, h2, fun y hy => (h3 y hy).mono⟩
theorem dq_th : ∀ {n : Nat} {x : V} {d : PyData}, Dq K H x d → Sm n d → Th K H n x
  | 0, _, _, h, _ => dq_ty h
  | n + 1, x, d, h, sm => by
    refine ⟨dq_ty h, fun a xs e z => ?_⟩
    subst e
    have key : ∀ ds, DqAll K H xs ds → (d = .list ds ∨ d = .tuple ds) → xs.length ≤ 100000 ∧ ∀ y ∈ xs, Th K H n y := fun ds t q => by
      rcases sm with f | ⟨es, h1, h2, h3⟩
      · rcases q with rfl | rfl <;> cases f
      · have e : es = ds := by
          rcases q with rfl | rfl <;> rcases h1 with h1 | h1 <;> cases h1 <;> rfl
        subst e
        refine ⟨by rw [t.len]; omega, fun y hy => ?_⟩
        obtain ⟨d', m1, m2⟩ := t.mem hy
        exact dq_th m2 (h3 d' m1)
    cases h with
    | lst e t =>
      rcases z with z | z
      · rw [e] at z; cases z
      · rw [e] at z; cases z; exact key _ t (.inl rfl)
    | tup e t =>
      rcases z with z | z
      · rw [e] at z; cases z; exact key _ t (.inr rfl)
      · rw [e] at z; cases z
    | dic e => rcases z with z | z <;> (rw [e] at z; cases z)
end
def bnd : Nat → Nat
  | 0 => 45
  | n + 1 => 45 * bnd n + 93
theorem bnd_le (n : Nat) : bnd n ≤ bnd (n + 1) := by
  show bnd n ≤ 45 * bnd n + 93
  omega
theorem flat_len {d : PyData} (h : flatD d = true) : d.shown.length ≤ 45 ∧ d.showable = true ∧ d.depth ≤ 1 := by
  cases d with
  | none => exact ⟨by decide, rfl, by decide⟩
  | bool b => cases b <;> exact ⟨by decide, rfl, by decide⟩
  | int i =>
    have h' : (decide (i.natAbs.log2 < 1920) && decide ((toString i : Str).length ≤ 45)) = true := h
    rw [Bool.and_eq_true] at h'
    refine ⟨?_, ?_, Nat.zero_le _⟩
    · simp only [PyData.shown]
      exact of_decide_eq_true h'.2
    · simp only [PyData.showable]
      exact h'.1
  | str x =>
    refine ⟨?_, by simp only [PyData.showable], Nat.zero_le _⟩
    simp only [PyData.shown]
    exact of_decide_eq_true h
  | dict kvs =>
    cases kvs with
    | nil => exact ⟨by decide +kernel, by simp only [PyData.showable, PyData.showableKv], by decide⟩
    | cons a b => cases h
  | list ds => cases h
  | tuple ds => cases h
theorem sum_le {b : Nat} : ∀ {ts : List Str}, (∀ t ∈ ts, t.length ≤ b) → (ts.map (·.length)).sum ≤ b * ts.length
  | [], _ => Nat.zero_le _
  | t :: ts, h => by
    have h1 := h t List.mem_cons_self
    have h2 := sum_le (b := b) (ts := ts) fun y hy => h y (List.mem_cons_of_mem _ hy)
    rw [List.map_cons, List.sum_cons, List.length_cons, Nat.mul_succ]
    omega
theorem shownAll_mem : ∀ {ds : List PyData} {t : Str}, t ∈ PyData.shownAll ds → ∃ d ∈ ds, d.shown = t
  | [], t, h => by
    simp only [PyData.shownAll] at h
    cases h
  | d :: ds, t, h => by
    simp only [PyData.shownAll] at h
    rcases List.mem_cons.mp h with h | h
    · exact ⟨d, List.mem_cons_self, h.symm⟩
    · obtain ⟨e, h1, h2⟩ := shownAll_mem h
      exact ⟨e, List.mem_cons_of_mem _ h1, h2⟩
theorem shownAll_len : ∀ ds : List PyData, (PyData.shownAll ds).length = ds.length
  | [] => by simp only [PyData.shownAll, List.length_nil]
  | d :: ds => by simp only [PyData.shownAll, List.length_cons, shownAll_len ds]
theorem showAll_of : ∀ {ds : List PyData}, (∀ d ∈ ds, d.showable = true) → PyData.showableAll ds = true
  | [], _ => by simp only [PyData.showableAll]
  | d :: ds, h => by
    simp only [PyData.showableAll, h d List.mem_cons_self, showAll_of fun y hy => h y (List.mem_cons_of_mem _ hy), Bool.and_self]
theorem depthAll_of {n : Nat} : ∀ {ds : List PyData}, (∀ d ∈ ds, d.depth ≤ n) → PyData.depthAll ds ≤ n
  | [], _ => Nat.zero_le _
  | d :: ds, h => by
    have h1 := h d List.mem_cons_self
    have h2 := depthAll_of (n := n) (ds := ds) fun y hy => h y (List.mem_cons_of_mem _ hy)
    show max d.depth (PyData.depthAll ds) ≤ n
    omega
theorem texts_le {b : Nat} {ds : List PyData} (h : ∀ d ∈ ds, d.shown.length ≤ b) : (listText (PyData.shownAll ds)).length ≤ b * ds.length + 2 * ds.length + 3 ∧ (tupleText (PyData.shownAll ds)).length ≤ b * ds.length + 2 * ds.length + 3 := by
  have q : ((PyData.shownAll ds).map (·.length)).sum ≤ b * (PyData.shownAll ds).length := sum_le fun t ht => by
    obtain ⟨d, h1, h2⟩ := shownAll_mem ht
    rw [← h2]
    exact h d h1
  have l := shownAll_len ds
  rw [l] at q
  have h1 := listText_len_le (PyData.shownAll ds)
  have h2 := tupleText_len_le (PyData.shownAll ds)
  rw [l] at h1 h2
  exact ⟨by omega, by omega⟩
theorem Sm.text : ∀ {n : Nat} {d : PyData}, Sm n d → d.shown.length ≤ bnd n ∧ d.showable = true ∧ d.depth ≤ n + 1
  | 0, d, h => flat_len h
  | n + 1, d, h => by
    rcases h with h | ⟨ds, h1, h2, h3⟩
    · obtain ⟨q1, q2, q3⟩ := flat_len h
      refine ⟨?_, q2, by omega⟩
      show _ ≤ 45 * bnd n + 93
      omega
    · have k : ∀ y ∈ ds, y.shown.length ≤ bnd n ∧ y.showable = true ∧ y.depth ≤ n + 1 := fun y hy => (h3 y hy).text
      obtain ⟨t1, t2⟩ := texts_le fun y hy => (k y hy).1
      have e : bnd n * ds.length ≤ bnd n * 45 := Nat.mul_le_mul_left _ h2
      have s := showAll_of fun y hy => (k y hy).2.1
      have p := depthAll_of fun y hy => (k y hy).2.2
      have u : bnd (n + 1) = 45 * bnd n + 93 := rfl
      rcases h1 with rfl | rfl
      · refine ⟨?_, by simpa only [PyData.showable] using s, by simp only [PyData.depth]; omega⟩
        simp only [PyData.shown]
        omega
      · refine ⟨?_, by simpa only [PyData.showable] using s, by simp only [PyData.depth]; omega⟩
        simp only [PyData.shown]
        omega
/-- three parts of small data can be shown -/
theorem three_text {a b c : PyData} (h1 : Sm 3 a) (h2 : Sm 3 b) (h3 : Sm 3 c) : PyData.showableAll [a, b, c] = true ∧ PyData.depthAll [a, b, c] ≤ 60 ∧ (PyData.tuple [a, b, c]).shown.length ≤ sizeLine := by
  have k : ∀ y ∈ [a, b, c], y.shown.length ≤ bnd 3 ∧ y.showable = true ∧ y.depth ≤ 4 := fun y hy => by
    simp only [List.mem_cons, List.not_mem_nil, or_false] at hy
    rcases hy with rfl | rfl | rfl
    · exact h1.text
    · exact h2.text
    · exact h3.text
  refine ⟨showAll_of fun y hy => (k y hy).2.1, Nat.le_trans (depthAll_of fun y hy => (k y hy).2.2) (by decide), ?_⟩
  simp only [PyData.shown]
  obtain ⟨_, t⟩ := texts_le fun y hy => (k y hy).1
  exact Nat.le_trans t (by show bnd 3 * 3 + 2 * 3 + 3 ≤ sizeLine; decide)
end Af

set_option Elab.async false
set_option linter.all false
set_option maxRecDepth 100000
namespace Af
open PySem PySem.Spec PyProof.Rows L2
/-! an object made where an exception is caught -/
section
variable {X : Cx} {CX : CXT} {k : Nat} {f C : Addr} {fd : FuncData} {ps : List Str} {sp : Sp} {E : L2.St → XK} {x : Str} {p pos : Pos} {e : Expr} {es : List Expr} {t : TA}
def tMakeS (C : Addr) (sp : Sp) (E : L2.St → XK) (t : TA) : TE := fun σ H Q => t σ H fun vs G => ∀ a d, G a = none → G d = none → d ≠ a → sp (.ref a :: vs) (upd (upd G d (.own a)) a (.ins C d [])) (fun v G' => v = .non ∧ Q (.ref a) G') (E σ)
theorem run_makeS {pins : List (Addr × Obj)} {σ : L2.St} {H : Hp} {s : Shared} {Q : VK} {us : List Value} {vs : List V} (M : Mk X.K C f) (F : FnOk X.prog X.w X.K X.mg X.base CX k f fd ps sp) (room : Room (k + 1) X.A) (b : Binds X.K fd ps []) (out : PassesAt CX X σ (E σ)) (I : Inv X pins σ H s) (r : Vals vs us)
    (h : ∀ a d, H a = none → H d = none → d ≠ a → sp (.ref a :: vs) (upd (upd H d (.own a)) a (.ins C d [])) (fun v G => v = .non ∧ Q (.ref a) G) (E σ)) : wpAny (model X.prog X.w) X.A (call (.ref C) us) (EP X pins σ Q) X.xe s := by
  have q := h (s.heap.objs.size + 1) s.heap.objs.size (I.hok.fresh (Nat.le_succ _)) (I.hok.fresh (Nat.le_refl _)) (Nat.ne_of_lt (Nat.lt_succ_self _))
  have J := Inv.made (C := C) I
  have rr : Vals (V.ref (s.heap.objs.size + 1) :: vs) (Value.ref (s.heap.objs.size + 1) :: us) := .cons rfl r
  have nl : (Value.ref (s.heap.objs.size + 1) :: us).length = ps.length := by
    rw [← rr.length]
    exact F.len _ _ _ _ q
  have bb := b _ (Value.ref (s.heap.objs.size + 1) :: us) J.kIn (by rw [List.append_nil]; exact nl)
  rw [List.append_nil] at bb
  refine wpAny_call (make_map (f := f) I.kIn M.makes M.init (beq_iff_eq.mp M.fn) (codeAny_mono (F.run _ X.stack _ _ ⟨Value.ref (s.heap.objs.size + 1) :: us, []⟩ (Value.ref (s.heap.objs.size + 1) :: us) _ _ (E σ) (room.make C us []) (J.env0.make C us []) bb rr q) fun r s' z => ?_))
  match r, z with
  | .error e, z => exact out pins _ _ e s' J z
  | .ok (.ret u), z =>
    obtain ⟨v, G, I3, rv, ev, q3⟩ := J.after z
    subst ev
    exact ⟨rv, ⟨V.ref (s.heap.objs.size + 1), G, I3, rfl, q3⟩⟩
  | .ok .next, z => exact (show False from z).elim
  | .ok .brk, z => exact (show False from z).elim
  | .ok .cont, z => exact (show False from z).elim
theorem pe_makeS (M : Mk X.K C f) (F : FnOk X.prog X.w X.K X.mg X.base CX k f fd ps sp) (room : Room (k + 1) X.A) (hg : Gl X x) (hm : X.mg x = some (.ref C)) (b : Binds X.K fd ps []) (out : ∀ σ, PassesAt CX X σ (E σ)) (ha : PA X (e :: es) t)
    (dbg : (x == ("__debug__" : Str)) = false := by decide) (he : starEach (e :: es) X.env = (false, eval e X.env) :: starEach es X.env := by rfl) (pl : (backTo pos (starEach es X.env)).any (·.1) = false := by rfl) :
    PE X (.Call (.Name x p) (e :: es) [] pos) (tMakeS C sp E t) := by
  refine ⟨fun pins s σ H Q I h => wpAny_Call_Name_kw (ld_glob I hg hm (PySem.W.callWith_K (h₀ := X.base) I.ok.mod.kin M.kp (thn (ha.run pos pins s σ H _ I h) fun us s1 z => ?_) he pl) dbg)⟩
  obtain ⟨vs, G, I1, r, q⟩ := z
  exact ⟨I1.kIn, run_makeS M F room b (out σ) I1 r q⟩
end
end Af

set_option Elab.async false
set_option linter.all false
set_option maxRecDepth 100000
set_option maxHeartbeats 2000000
namespace Af
open PySem PySem.Spec PyProof.Rows L2
/-! an error that a suite puts into a name is held behind the try -/
def HeldE (cls : Value) (d : Option Addr) (a : Addr) : HO := .ext fun h => ∃ (oe : Obj) (vs : Array Value), h.get? a = some oe ∧ Zc cls d oe ∧ oe.data = .fields vs
theorem heldE_ok {P : Program} {w : World} {H : Hp} {h : Heap} {a : Addr} {cls : Value} {d : Option Addr} {oe : Obj} {vs : Array Value} (e : h.get? a = some oe) (z : Zc cls d oe) (q : oe.data = .fields vs) : ObjOk P w H h a (HeldE cls d a) :=
  ⟨⟨oe, vs, e, z, q⟩, ⟨oe, e⟩, fun _ _ ⟨o, v, y, r⟩ k => ⟨o, v, k o y, r⟩⟩
/-- what 'except x as n' wishes: behind the suite the error is held -/
def wHold (K : PySem.W.Frag) (c : Value) (i : Nat) (ts : Addr → Value → Option Addr → TS) (Wout : WX) (D : Ends) : WX := fun cls d σ H => ∃ yes, PySem.W.exmOne K cls c = some yes ∧
  (yes = true → ∀ a, H a = none → ts a cls d { nx := fun τ G => D.nx (τ.set i none) (upd G a (HeldE cls d a)), rt := fun _ _ => False, bk := fun _ _ => False, ct := fun _ _ => False } (σ.set i (some (.ref a))) H) ∧ (yes = false → Wout cls d σ H)
section
variable {X : Cx} {x n : Str} {c : Value} {i : Nat} {body suite : List Stmt} {b₀ : Stmt} {np pos pos' : Pos} {tb : WX → TS} {ts : Addr → Value → Option Addr → TS} {Wout : WX}
theorem hold_end {pins : List (Addr × Obj)} {σ : L2.St} {H : Hp} {s : Shared} {a : Addr} {oe : Obj} {vs : Array Value} {cls : Value} {d : Option Addr} (I : Inv X ((a, oe) :: pins) σ H s) (z : Zc cls d oe) (q : oe.data = .fields vs) (fresh : X.s_0.heap.get? a = none)
    (apart : ∀ p ∈ X.pn ++ pins, p.1 ≠ a) : Inv X pins σ (upd H a (HeldE cls d a)) s := by
  obtain ⟨ea, na, nl, nf, nc⟩ := I.pin (a, oe) (List.mem_append.mpr (.inr List.mem_cons_self))
  have ins : ∀ p ∈ X.pn ++ pins, p ∈ X.pn ++ (a, oe) :: pins := fun p hp => by
    rcases List.mem_append.mp hp with hp | hp
    · exact List.mem_append.mpr (.inl hp)
    · exact List.mem_append.mpr (.inr (List.mem_cons_of_mem _ hp))
  have B := I.base
  refine ⟨I.ok, I.os, I.bare, ⟨B.keep, B.slot, fun b o e n x => ?_, B.there, fun b ys e => ?_, fun b o u e => ?_, fun b ps e => ?_⟩, I.loc, I.cell, ?_, fun y c e => ?_, fun p hp => ?_, ?_, I.len⟩
  · rw [upd_ne (fun y => by rw [y, fresh] at e; cases e)]
    exact B.free b o e n x
  · have y := B.tups b ys e
    rw [upd_ne (ne_of_none y na)]
    exact y
  · have y := B.frzs b o u e
    rw [upd_ne (ne_of_none y na)]
    exact y
  · obtain ⟨more, y⟩ := B.tbls b ps e
    exact ⟨more, by rw [upd_ne (ne_of_none y na)]; exact y⟩
  · rw [upd_ne (Ne.symm nl)]
    exact I.free
  · have f := I.freeC y c e
    by_cases h : c = a
    · obtain ⟨v, o, ho, hd⟩ := I.cell y c e
      rw [h, ea] at ho
      cases ho
      exact absurd hd (nc _)
    · rw [upd_ne h]
      exact f
  · obtain ⟨p1, p2, p3, p4, p5⟩ := I.pin p (ins p hp)
    exact ⟨p1, by rw [upd_ne (apart p hp)]; exact p2, p3, p4, p5⟩
  · exact I.hok.laidN (fun _ _ y => y) na (heldE_ok ea z q)
/-- try: body, except x as n: suite, where the suite runs through -/
theorem ps_try_hold (hs : X.stack = X.env :: X.outer) (hf : X.env.frame = some X.env.locals) (hN : X.N.Nodup) (hi : X.N[i]? = some n) (hln : X.env.kindOf n = some .local) (hex : X.ex = []) (hc : Names X x c) (tk : Takes X Wout)
    (main : ∀ (W : WX) (pn : List (Addr × Obj)) (xe : Value → Shared → Prop), Takes (X.tr pn xe) W → PassesOwn (model X.prog X.w) X.A X.env xe → PSs (X.tr pn xe) body (tb W))
    (after : ∀ (a : Addr) (oe : Obj) (cls : Value) (d : Option Addr) (pn : List (Addr × Obj)), Zc cls d oe → (∃ vs, oe.data = .fields vs) → PSs (X.suite a ((a, oe) :: pn)) (b₀ :: suite) (ts a cls d)) :
    PS X (.Try body [.ExceptHandler (some (.Name x np)) (some n) (b₀ :: suite) pos'] [] [] pos) (fun D σ H => tb (wHold X.K c i ts Wout D) D σ H) := by
  refine ⟨fun pins s σ H D I start => ?_⟩
  have okX := I.ok
  have frm : X.A.frames = some (X.env :: X.outer) := by rw [okX.frames, hs]
  refine wpAny_Try_except (wpAny_mono ((main (wHold X.K c i ts Wout D) (X.pn ++ pins) (fun e u => wpAny (model X.prog X.w) X.A (noteFrame e X.env) (fun _ u2 => wpAny (model X.prog X.w) X.A (setFlight e none) (fun _ u3 =>
    wpAny (model X.prog X.w) X.A (handleBy e X.env [.ExceptHandler (some (.Name x np)) (some n) (b₀ :: suite) pos']) (SP X pins D) X.xe u3) X.xe u2) X.xe u) (fun eu sr air => ?_) PassesOwn.looking).run [] s σ H D (I.toTry _) start) (fun fl s1 done => ?_) (fun _ _ y => y))
  · obtain ⟨a, B, s0, ps0, τ, G, cls, d, rfl, I0, nb, upS, sky, na, osE, bare, yes, hyes, onYes, onNo⟩ := air
    have I1 : Inv X pins τ G s0 := I0.ofTry okX
    show wpAny (model X.prog X.w) X.A (noteFrame (.ref a) X.env) _ _ _
    refine Sky.land Zc.steady frm hf (hs ▸ sky) fun h3 fly up3 => ?_
    have I3 : Inv X pins τ G { sr with heap := h3 } := I1.landed nb fly.1 (upS.trans up3) osE bare
    obtain ⟨o3, v3, at3, z3, d3⟩ := fly.there
    have offs : a ∉ frs (X.env :: X.outer) := fun m => by
      obtain ⟨_, o', e', nfd⟩ := fly.2.2.1.mem m
      rw [at3] at e'
      cases e'
      exact nfd _ d3
    have offL : a ≠ X.env.locals := fun y => offs (List.mem_filterMap.mpr ⟨X.env, List.mem_cons_self, by rw [hf, y]⟩)
    have offF : a ∉ X.fs := fun m => by
      obtain ⟨e, he, y⟩ := List.mem_filterMap.mp m
      exact offs (List.mem_filterMap.mpr ⟨e, List.mem_cons_of_mem _ he, y⟩)
    -- it is younger than all that stood ahead
    have young : s0.heap.get? a = none := by
      cases y : s0.heap.get? a with
      | none => rfl
      | some o =>
        have y2 := nb a o y (by rw [hs]; exact offs)
        rw [fly.2.1] at y2
        cases y2
    have fresh : X.s_0.heap.get? a = none := by
      cases y : X.s_0.heap.get? a with
      | none => rfl
      | some o =>
        obtain ⟨o', y2⟩ := I1.base.there a o y (by rw [hex]; simp)
        rw [young] at y2
        cases y2
    have apart : ∀ p ∈ X.pn ++ pins, p.1 ≠ a := fun p hp y => by
      obtain ⟨p1, _⟩ := I1.pin p hp
      rw [y, young] at p1
      cases p1
    have J3 := I3.suite at3 d3 na offL offF
    refine wpAny_handleBy_cons (codeAny_handlers_test ?_) (by intro y; cases y)
    have kind : PySem.W.Looks (model X.prog X.w) h3 (typeOf (.ref a)) cls := fun _ _ _ _ keep y => wpAny_typeOf_ref (keep _ _ at3) (by rw [z3.1]; exact y)
    have match_ := PySem.W.exm_one (M := model X.prog X.w) I3.kIn kind hyes
    have named : ∀ {R : Value → Shared → Prop} {E : Value → Shared → Prop}, R c { sr with heap := h3 } → wpAny (model X.prog X.w) (X.A.mark (some (.ref a))) (eval (.Name x np) X.env) R E { sr with heap := h3 } := fun {R E} y => by
      obtain ⟨g, dbg, own | ⟨no, bt, nn⟩⟩ := hc
      · exact ld_glob (X := X.suite a ((a, o3) :: (X.pn ++ pins))) J3 g own y dbg
      · exact ld_blt (X := X.suite a ((a, o3) :: (X.pn ++ pins))) J3 g no bt y nn dbg
    refine named (match_.here ?_)
    cases yes with
    | true =>
      refine codeAny_handlers_suite_as (HandSPX.lands_againZ fly fun h4 fly4 up4 => ?_)
      have I4 : Inv X pins τ G { sr with heap := h4 } := I1.landed nb fly4.1 ((upS.trans up3).trans up4) osE bare
      obtain ⟨o4, v4, at4, z4, d4⟩ := fly4.there
      refine store_ok (X := X.suite a ((a, o4) :: (X.pn ++ pins))) (v := .ref a) (I4.suite at4 d4 na offL offF) hN hi (.inl hln) rfl (fun s5 I5 => ?_) (.inr hln)
      refine wpAny_mono ((after a o4 cls d (X.pn ++ pins) z4 ⟨_, d4⟩).run [] s5 _ G _ I5 (onYes rfl a na)) (fun fl s6 y => ?_) (fun _ _ y => False.elim y)
      match fl, y with
      | .next, ⟨τ6, G6, I6, q6⟩ =>
        have I6' : Inv X ((a, o4) :: pins) τ6 G6 s6 := by
          have u := I6.unsuite (q := (a, o4)) okX
          exact ⟨u.ok, u.os, u.bare, u.base, u.loc, u.cell, u.free, u.freeC, fun p hp => by
            rcases List.mem_append.mp hp with hp | hp
            · exact u.pin p (List.mem_append.mpr (.inl hp))
            · rcases List.mem_cons.mp hp with rfl | hp
              · exact I6.pin _ (List.mem_append.mpr (.inl List.mem_cons_self))
              · exact u.pin p (List.mem_append.mpr (.inr hp)), u.hok, u.len⟩
        exact gone_ok I6' hN hi hln fun s7 I7 => ⟨_, _, hold_end I7 z4 d4 fresh apart, q6⟩
      | .ret u, ⟨_, _, _, _, _, q6⟩ => exact q6.elim
      | .brk, ⟨_, _, _, q6⟩ => exact q6.elim
      | .cont, ⟨_, _, _, q6⟩ => exact q6.elim
    | false =>
      show wpAny _ X.A (handleBy (.ref a) X.env []) _ _ _
      refine wpAny_handleBy_nil ?_
      obtain ⟨_, _, _, oe, vs, T, oT, tr, he, hz, hd, hT, _⟩ := id fly
      have up : wpAny (model X.prog X.w) X.A (setFlight (.ref a) X.env.frame) (fun _ u => wpAny (model X.prog X.w) X.A (throw (.ref a) : Sem Flow) (SP X pins D) X.xe u) X.xe { sr with heap := h3 } := by
        rw [hf]
        exact HandSPX.setFlight_upZ fly fun h4 held up4 => wpAny_throw (tk _ _ ⟨a, B, s0, pins, τ, G, cls, d, rfl, I1, nb, (upS.trans up3).trans up4, .inr (.inr (by rw [hs]; exact held)), na, osE, bare, onNo rfl⟩)
      unfold PySem.passOn
      refine wpAny_bind (wpAny_field he hd hT ?_)
      rw [if_neg (show ¬ ((Value.ref T == Value.none) = true) from by simp)]
      first
        | exact wpAny_bind (wpAny_pure (wpAny_bind up))
        | exact wpAny_bind up
  · match fl, done with
    | .next, ⟨τ, G, J, q⟩ => exact wpAny_execs_nil ⟨τ, G, J.ofTry okX, q⟩
    | .brk, ⟨τ, G, J, q⟩ => exact ⟨τ, G, J.ofTry okX, q⟩
    | .cont, ⟨τ, G, J, q⟩ => exact ⟨τ, G, J.ofTry okX, q⟩
    | .ret u, ⟨v, τ, G, J, r, q⟩ => exact ⟨v, τ, G, J.ofTry okX, r, q⟩
/-- isinstance(e, c) of an error that is held -/
def rIsHeld (K : PySem.W.Frag) (D : Addr) : List V → Hp → VK → Prop := fun xs H Q => ∃ (a : Addr) (c : V) (cv : Value) (b : Bool), xs = [.ref a, c] ∧ H a = some (HeldE (.ref D) none a) ∧ ClsV c cv ∧ PySem.W.kitOne K (.ref D) cv = some b ∧ Q (.bl b) H
theorem held_at {pins : List (Addr × Obj)} {σ : L2.St} {H : Hp} {s : Shared} {a D : Addr} (I : Inv X pins σ H s) (h : H a = some (HeldE (.ref D) none a)) : ∃ oe, PySem.W.InstAt s.heap a oe D none := by
  obtain ⟨⟨oe, vs, e, ⟨c1, c2⟩, dd⟩, _⟩ := (show ObjOk X.prog X.w H s.heap a (HeldE (.ref D) none a) from I.hok a _ h)
  obtain ⟨oc, od, oda, osl⟩ := oe
  dsimp only at c1 c2 dd
  subst c1 c2 dd
  exact ⟨_, e, rfl, rfl, trivial⟩
theorem call_isHeld {D : Addr} (C : L2.ExcC X.K D) : CallR X (.builtin "isinstance") (rIsHeld X.K D) := by
  intro pins s σ H xs us Q I r h
  obtain ⟨a, c, cv, b, rfl, ha, k, e, q⟩ := h
  obtain ⟨u1, u2, rfl, r1, r2⟩ := vals2 r
  cases (show u1 = Value.ref a from r1)
  have e2 := k.eq r2
  subst e2
  obtain ⟨oe, J⟩ := held_at I ha
  exact PySem.W.kia_one (PySem.W.handS_kitx_exc C.hg C.hk C.hs C.hd C.ha C.hn C.ht C.hm) I.kIn J e (fun y => nomatch y) fun tk => ⟨.bl b, H, I.tok tk, rfl, q⟩
/-- the same, a tuple of classes that was just laid -/
def rIsHeldT (K : PySem.W.Frag) (D : Addr) : List V → Hp → VK → Prop := fun xs H Q => ∃ (a tp : Addr) (cs : List V) (cvs : List Value) (b : Bool), xs = [.ref a, .ref tp] ∧ H a = some (HeldE (.ref D) none a) ∧ H tp = some (.tup cs) ∧ Paired ClsV cs cvs ∧ PySem.W.kitAny K (.ref D) cvs = some b ∧ Q (.bl b) H
theorem call_isHeldT {D : Addr} (C : L2.ExcC X.K D) : CallR X (.builtin "isinstance") (rIsHeldT X.K D) := by
  intro pins s σ H xs us Q I r h
  obtain ⟨a, tp, cs, cvs, b, rfl, ha, ht, k, e, q⟩ := h
  obtain ⟨u1, u2, rfl, r1, r2⟩ := vals2 r
  cases (show u1 = Value.ref a from r1)
  cases (show u2 = Value.ref tp from r2)
  obtain ⟨oe, J⟩ := held_at I ha
  obtain ⟨its, rv, ⟨o, h1, h2, n, h3⟩, _⟩ := I.tuple (SqT.of ht)
  have e3 := ClsV.all k rv
  subst e3
  obtain ⟨oc, od, dt, sl⟩ := o
  simp only at h2 h3
  subst h2 h3
  exact PySem.W.kia_tup (PySem.W.handS_kitx_exc C.hg C.hk C.hs C.hd C.ha C.hn C.ht C.hm) I.kIn J h1 e (fun y => nomatch y) fun tk => ⟨.bl b, H, I.tok tk, rfl, q⟩
end
end Af

set_option Elab.async false
set_option linter.all false
set_option maxRecDepth 100000
namespace Af
open PySem PySem.Spec PyProof.Rows L2
/-! a def that asks repr, called where no repr is under way; repr of data of any kind -/
structure CalG (P : Program) (w : World) (K : PySem.W.Frag) (mg : Str → Option Value) (base : Heap) (k : Nat) (x : Str) (ps : List Str) (sp : Sp) : Prop where
  ex : ∃ (f : Addr) (fd : FuncData), FnG P w K mg base k f fd ps sp ∧ mg x = some (.ref f) ∧ PySem.W.keepIn K (.ref f) = true ∧ Binds K fd ps []
section
variable {X : Cx} {k j : Nat} {x : Str} {ps : List Str} {sp : Sp} {e : Expr} {es : List Expr} {t : TA} {p pos : Pos}
theorem pe_calG (c : CalG X.prog X.w X.K X.mg X.base k x ps sp) (room : Room j X.A) (quiet : X.A.guards = some []) (ha : PA X (e :: es) t) (hkj : k ≤ j := by decide) (hg : Gl X x := by rfl) (dbg : (x == ("__debug__" : Str)) = false := by decide)
    (he : starEach (e :: es) X.env = (false, eval e X.env) :: starEach es X.env := by rfl) (pl : (backTo pos (starEach es X.env)).any (·.1) = false := by rfl) :
    PE X (.Call (.Name x p) (e :: es) [] pos) (tCal sp t) := by
  obtain ⟨f, fd, G, m, kp, b⟩ := c.ex
  refine ⟨fun pins s σ H Q I h => wpAny_Call_Name_kw (ld_glob I hg m (PySem.W.callWith_K (h₀ := X.base) I.ok.mod.kin kp (thn (ha.run pos pins s σ H _ I h) fun us s1 z => ?_) he pl) dbg)⟩
  obtain ⟨vs, H1, I1, r, q⟩ := z
  refine ⟨I1.kIn, ?_⟩
  have nl : us.length = ps.length := by
    rw [← r.length]
    exact G.many _ _ _ _ q
  have bb := b s1 us I1.kIn (by rw [List.append_nil]; exact nl)
  rw [List.append_nil] at bb
  refine wpAny_call (codeAny_mono (G.goes X.A X.stack s1 H1 ⟨us, []⟩ us vs Q E0 (room.mono hkj) quiet I1.env0 bb r q) fun r s' z => ?_)
  match r, z with
  | .error e, z => exact pass0 pins σ H1 s1 e s' I1 z
  | .ok (.ret u), z => exact I1.after z
  | .ok .next, z => exact (show False from z).elim
  | .ok .brk, z => exact (show False from z).elim
  | .ok .cont, z => exact (show False from z).elim
end
section
variable {X : Cx} {pins : List (Addr × Obj)} {σ : L2.St} {H : Hp} {s : Shared}
def rReprL (K : PySem.W.Frag) : List V → Hp → VK → Prop := fun xs H Q => ∃ (a : Addr) (vs : List V) (ds : List PyData), xs = [.ref a] ∧ H a = some (.lst vs) ∧ DqAll K H vs ds ∧ PyData.showableAll ds = true ∧ PyData.depthAll ds ≤ 60 ∧ (PyData.list ds).shown.length ≤ sizeLine ∧ Q (.str (PyData.list ds).shown) H
/-- repr of a list of data -/
theorem call_reprL (hg : X.A.guards = some []) (hu : X.A.units + 64 < cLine) : CallR X (.builtin "repr") (rReprL X.K) := by
  intro pins s σ H xs us Q I r h
  obtain ⟨a, vs, ds, rfl, hs, hd, sh, dp, sz, q⟩ := h
  obtain ⟨u, rfl, ru⟩ := vals1 r
  cases (show u = Value.ref a from ru)
  obtain ⟨its, rv, ⟨o, n, ho, hc, _, hdd⟩, _⟩ := I.list (SqL.of hs)
  have sz' : (listText (PyData.shownAll ds)).length ≤ sizeLine := by simpa only [PyData.shown] using sz
  obtain ⟨as, bs, hr, hb, hk⟩ := Dq.seesAll I ds vs its hd rv sh fun t ht => Nat.le_trans (listText_mem_le ht) sz'
  have rd : Reads s.heap (.ref a) (.list ds) _ := .list ho hc hdd hr
  have new : a ∉ bs := not_mem_of_deeper rd (by simp only [PyData.depth]; omega) hb
  have txt : (PyData.list ds).shown = listText (PyData.shownAll ds) := by simp only [PyData.shown]
  refine call_repr_slot (T := "list") (by omega) ⟨o, ho, hc⟩ PySem.F.slot_list_repr.toG ?_
  cases its with
  | nil =>
    cases hr
    have e0 : (PyData.list []).shown = ("[]" : Str) := by simp only [PyData.shown, PyData.shownAll, listText_nil]
    refine call_list_repr_empty ⟨o, ho, hc⟩ ho hdd ⟨_, _, rfl, .str (PyData.list []).shown, H, ?_, ⟨_, by rw [e0]⟩, q⟩
    exact I.kept (t' := _) fun _ _ y => y
  | cons y l =>
    refine call_list_reprK ho hc hdd new (by simpa using hk.length_eq) (fun i y e => hk.item i y (by simpa using e)) hg (fun b _ => Clear.nil b) (by show X.A.units + 1 + (PyData.depthAll ds + 1) < cLine; omega) (fun _ _ e => e) (fun h' u tk keep => ?_) sz'
    refine ⟨_, _, rfl, .str (PyData.list ds).shown, H, I.kept keep, ⟨u, ?_⟩, q⟩
    simp only [PyData.shown]
end
end Af

set_option Elab.async false
set_option linter.all false
set_option maxRecDepth 100000
namespace Af
open PySem PySem.Spec PyProof.Rows L2
/-! xs.count(None), exactly; repr of a thing of any kind -/
def rCntX (K : PySem.W.Frag) : V → List V → Hp → VK → Prop := fun x xs H Q => ∃ (p : Addr) (ys : List V) (ds : List PyData), x = .ref p ∧ xs = [.non] ∧ SqL K H p ys ∧ DpAll K H ys ds ∧ PyData.canLayAll0 ds = true ∧ Q (.int ((ds.countP (fun y => PyData.eqv y .none) : Nat) : Int)) H
theorem mt_countX {X : Cx} (hu : X.A.units + 1 < cLine) : MtR X "list.count" (rCntX X.K) := by
  intro pins s σ H x xs v us Q I rx rxs h
  obtain ⟨p, ys, ds, rfl, rfl, hs, hd, hl, q⟩ := h
  cases (show v = Value.ref p from rx)
  obtain ⟨u, rfl, ru⟩ := rxs.one
  cases (show u = Value.none from ru)
  obtain ⟨its, rv, pl, _⟩ := I.list hs
  obtain ⟨as, rs⟩ := Dp.readsAll I ds ys its hd rv
  refine PySem.SeqAt.count_list_data (d := .none) (vs := its.toArray) pl.isList (by simpa using rs) Reads.none (PyData.plainAll_of_canLay0 _ hl) rfl (by show X.A.units + 1 + min _ 0 < cLine; omega) ?_
  exact ⟨.int (ds.countP (fun y => PyData.eqv y .none) : Nat), H, I.tok _, ⟨_, rfl⟩, q⟩
/-- the barriers among these steps -/
def bars (l : List Stp) : Nat := l.countP fun s => s.isNone
theorem bars_count : ∀ l : List Stp, (stepsD l).countP (fun y => PyData.eqv y .none) = bars l
  | [] => rfl
  | a :: l => by
    have e : stepsD (a :: l) = stepD a :: stepsD l := rfl
    unfold bars
    rw [e, List.countP_cons, List.countP_cons, bars_count l]
    cases a with
    | none => rfl
    | some fw =>
      obtain ⟨f, ws⟩ := fw
      rfl
theorem bars_app (a b : List Stp) : bars (a ++ b) = bars a + bars b := List.countP_append ..
/-- repr of data that is no list, tuple or dict -/
def rReprF : List V → Hp → VK → Prop := fun xs H Q => ∃ (x : V) (d : PyData), xs = [x] ∧ (∀ K, Dq K H x d) ∧ flatD d = true ∧ (∀ kvs, d ≠ .dict kvs) ∧ Q (.str d.shown) H
theorem call_reprF {X : Cx} (hg : X.A.guards = some []) (hu : X.A.units + 64 < cLine) : CallR X (.builtin "repr") rReprF := by
  intro pins s σ H xs us Q I r h
  obtain ⟨x, d, rfl, hd, fl, nd, q⟩ := h
  obtain ⟨u, rfl, ru⟩ := vals1 r
  obtain ⟨tx, sh, dp⟩ := flat_len fl
  cases hd X.K with
  | int i =>
    obtain ⟨t, rfl⟩ := ru
    have lg : i.natAbs.log2 < 1920 := of_decide_eq_true (show decide (i.natAbs.log2 < 1920) = true from by simpa only [PyData.showable] using sh)
    refine PySem.P.repr_of_int lg ⟨.str _, H, I.tok _, ⟨_, rfl⟩, ?_⟩
    simpa only [PyData.shown] using q
  | non =>
    cases (show u = Value.none from ru)
    refine PySem.P.repr_of_none ⟨.str _, H, I.tok _, ⟨_, rfl⟩, ?_⟩
    simpa only [PyData.shown] using q
  | bl b =>
    cases (show u = Value.bool b from ru)
    refine PySem.P.repr_of_bool ⟨.str (PyData.bool b).shown, H, I.tok _, ⟨s.toks, ?_⟩, q⟩
    cases b <;> simp only [PyData.shown] <;> rfl
  | str z =>
    obtain ⟨t, rfl⟩ := ru
    refine PySem.P.repr_of_str ⟨.str (PyData.str z).shown, H, I.tok _, ⟨s.toks, ?_⟩, q⟩ ?_
    · simp only [PyData.shown]
    have := of_decide_eq_true fl
    exact Nat.le_trans this (by decide)
  | lst e t => cases fl
  | tup e t => cases fl
  | dic e => exact absurd rfl (nd _)
end Af

set_option Elab.async false
set_option linter.all false
set_option maxRecDepth 100000
set_option maxHeartbeats 4000000
namespace Af
open PySem L2
/-- the epoch of each step -/
def eps : Nat → List Stp → List Int
  | _, [] => []
  | k, s :: r => (k : Int) :: eps (if s.isNone = true then k + 1 else k) r
theorem eps_len : ∀ (l : List Stp) (k : Nat), (eps k l).length = l.length
  | [], _ => rfl
  | a :: l, k => by
    show (eps _ l).length + 1 = l.length + 1
    rw [eps_len l]
theorem eps_snoc (s : Stp) : ∀ (l : List Stp) (k : Nat), eps k (l ++ [s]) = eps k l ++ [((k + bars l : Nat) : Int)]
  | [], k => rfl
  | a :: l, k => by
    show (k : Int) :: eps _ (l ++ [s]) = (k : Int) :: (eps _ l ++ [((k + bars (a :: l) : Nat) : Int)])
    rw [eps_snoc s l]
    have e : bars (a :: l) = bars l + (if a.isNone = true then 1 else 0) := by
      unfold bars
      rw [List.countP_cons]
    rw [e]
    congr 3
    cases a with
    | none =>
      show (((k + 1 + bars l : Nat) : Int)) = ((k + (bars l + 1) : Nat) : Int)
      omega
    | some _ =>
      show (((k + bars l : Nat) : Int)) = ((k + (bars l + 0) : Nat) : Int)
      omega
theorem eps_take {l : List Stp} {i : Nat} {s : Stp} (h : l[i]? = some s) : eps 0 (l.take (i + 1)) = eps 0 (l.take i) ++ [((bars (l.take i) : Nat) : Int)] := by
  rw [List.take_add_one, h]
  show eps 0 (l.take i ++ [s]) = _
  rw [eps_snoc, Nat.zero_add]
theorem bars_take {l : List Stp} {i : Nat} {s : Stp} (h : l[i]? = some s) : bars (l.take (i + 1)) = bars (l.take i) + (if s.isNone = true then 1 else 0) := by
  rw [List.take_add_one, h]
  show bars (l.take i ++ [s]) = _
  rw [bars_app]
  congr 1
  unfold bars
  rw [List.countP_singleton]
def sp_epochsX : Sp := fun vs H Q _ => ∃ (a : Addr) (xs : List V) (sts : List Stp), vs = [.ref a] ∧ H a = some (.lst xs) ∧ Paired (StepV H) xs sts ∧ xs.length ≤ 100 ∧ ∀ l H', Same H H' → H l = none → H' l = some (.lst (ivs (eps 0 sts))) → Q (.ref l) H'
section
variable {P : Program} {w : World} {K : PySem.W.Frag} {mg : Str → Option Value} {base : Heap}
theorem ok_epochsX {f : Addr} {fd : FuncData} (F : Fun K "_epochs_of" "_epochs_of" s_epochs_of f fd) (T : Txt mg) : FnOk P w K mg base CX0 1 f fd ["steps"] sp_epochsX := by
  refine F.ok sc_epochs_of (fun vs H Q E h => ?_) (fun cdv A outer s H vs Q E hr h => ?_)
  · obtain ⟨_, _, _, rfl, _⟩ := h
    rfl
  obtain ⟨a, xs, sts, rfl, ha, hst, xl, k⟩ := h
  have hlen := paired_len hst
  refine ⟨_, (pss_cons (ps_par (i := 1) (j := 2) rfl sc_epochs_of.nd rfl rfl (by decide) rfl rfl (pa_cons (pe_lst' pa_nil) (pa_cons pe_int pa_nil)) (by rfl))
    (pss_cons (ps_for PassesOwn.never rfl (pi_list (pv 0)) (pg_name (i := 3) sc_epochs_of.nd rfl (Or.inl rfl))
      (pss_cons (ps_expr (pe_bm PySem.F.plainAttrs_list PySem.F.slot_list_append PySem.F.type_list_append mt_append (pv 1) (pa_cons (pv 2) pa_nil)))
    (pss_one (ps_if (pt_cmpR op_isN (pv 3) pe_non (nomark _))
      (pss_one (ps_aug (i := 2) sc_epochs_of.nd rfl (Or.inl rfl) pe_int ip_add))
      pss_nil))))
    (pss_one (ps_ret (pv 1))))), ?_⟩
  refine ⟨szr, fun el H1 hel s1 h1 => ⟨_, _, rfl, ?_⟩⟩
  refine ⟨_, rfl, a, rfl, ⟨xs, SqL.of (s1 _ _ ha)⟩, for_list (K := K) (a := a) (xs := xs) (fun i σ' H' => ∃ (v : Option V), σ' = [some (.ref a), some (.ref el), some (.int ((bars (sts.take i) : Nat) : Int)), v] ∧ Same H H' ∧ H' el = some (.lst (ivs (eps 0 (sts.take i))))) ?_ ?_ ?_ ?_⟩
  · exact ⟨none, rfl, s1, h1⟩
  · rintro i σ' H' _ ⟨v, rfl, s2, _⟩
    exact SqL.of (s2 _ _ ha)
  · rintro i x σ' H' hx ⟨v, rfl, s2, h2⟩
    have hi : i < xs.length := (List.getElem?_eq_some_iff.mp hx).1
    obtain ⟨st, hs1, hs2⟩ := paired_get hst hx
    have et := eps_take hs1
    have bt := bars_take hs1
    refine ⟨_, rfl, .inl ⟨rfl, _, SqL.of h2⟩, _, rfl, el, _, _, rfl, rfl, h2, szl (by rw [ivs_len, eps_len, List.length_take]; omega), ?_⟩
    have e2 : (upd H' el (.lst (ivs (eps 0 (sts.take i)) ++ [.int ((bars (sts.take i) : Nat) : Int)]))) el = some (.lst (ivs (eps 0 (sts.take (i + 1))))) := by
      rw [upd_same, et]
      unfold ivs
      rw [List.map_append]
      rfl
    cases st with
    | none =>
      have e : x = .non := hs2
      subst e
      refine ⟨_, rfl, rfl, _, rfl, iteT ?_⟩
      refine ⟨_, rfl, _, _, rfl, rfl, some .non, ?_, same_mut s2 hel, e2⟩
      rw [bt]
      rfl
    | some fw =>
      obtain ⟨f, ws⟩ := fw
      obtain ⟨t, b, e, _, _⟩ := hs2
      subst e
      refine ⟨_, rfl, rfl, _, rfl, iteF ⟨some (.ref t), ?_, same_mut s2 hel, e2⟩⟩
      rw [bt]
      rfl
  · rintro σ' H' ⟨v, rfl, s2, h2⟩
    rw [hlen, List.take_length] at h2
    exact ⟨_, rfl, k el H' s2 hel h2⟩
end
end Af

set_option Elab.async false
set_option linter.all false
set_option maxRecDepth 100000
namespace Af
open PySem L2
abbrev s_is_integer : Stmt := top 6
abbrev N_is_integer : List Str := ["thing"]
theorem sc_is_integer : FnScope N_is_integer ["thing"] (defScope s_is_integer) := ⟨rfl, rfl, rfl, by decide +kernel, rfl, by decide +kernel, by decide +kernel⟩

abbrev s_is_index : Stmt := top 7
abbrev N_is_index : List Str := ["thing", "many"]
theorem sc_is_index : FnScope N_is_index ["thing", "many"] (defScope s_is_index) := ⟨rfl, rfl, rfl, by decide +kernel, rfl, by decide +kernel, by decide +kernel⟩

abbrev s_are_worths : Stmt := top 11
abbrev N_are_worths : List Str := ["thing", "part"]
theorem sc_are_worths : FnScope N_are_worths ["thing"] (defScope s_are_worths) := ⟨rfl, rfl, rfl, by decide +kernel, rfl, by decide +kernel, by decide +kernel⟩

abbrev s_is_content : Stmt := top 12
abbrev N_is_content : List Str := ["thing"]
theorem sc_is_content : FnScope N_is_content ["thing"] (defScope s_is_content) := ⟨rfl, rfl, rfl, by decide +kernel, rfl, by decide +kernel, by decide +kernel⟩

abbrev s_is_width : Stmt := top 16
abbrev N_is_width : List Str := ["thing"]
theorem sc_is_width : FnScope N_is_width ["thing"] (defScope s_is_width) := ⟨rfl, rfl, rfl, by decide +kernel, rfl, by decide +kernel, by decide +kernel⟩

abbrev s_is_step : Stmt := top 17
abbrev N_is_step : List Str := ["cells", "thing", "first", "worths"]
theorem sc_is_step : FnScope N_is_step ["cells", "thing"] (defScope s_is_step) := ⟨rfl, rfl, rfl, by decide +kernel, rfl, by decide +kernel, by decide +kernel⟩

abbrev s_are_steps : Stmt := top 22
abbrev N_are_steps : List Str := ["cells", "width", "thing", "step"]
theorem sc_are_steps : FnScope N_are_steps ["cells", "width", "thing"] (defScope s_are_steps) := ⟨rfl, rfl, rfl, by decide +kernel, rfl, by decide +kernel, by decide +kernel⟩

/-- the module's constants -/
structure Cst (K : PySem.W.Frag) (mg : Str → Option Value) : Prop where
  cells : ∃ t, mg "MOST_CELLS" = some (.int 24 t)
  steps : ∃ t, mg "MOST_STEPS" = some (.int 40 t)
  pieces : ∃ t, mg "MOST_PIECES" = some (.int 40 t)
  worths : ∃ a, mg "ALL_WORTHS" = some (.ref a) ∧ ∀ H, SqT K H a (ivs [0, 1, 2, 3, 4, 5, 6, 7])
def sp_is_integer (K : PySem.W.Frag) : Sp := fun vs H Q _ => ∃ x n, vs = [x] ∧ Ty K H x n ∧ Q (.bl (decide (n = "int"))) H
def sp_is_index (K : PySem.W.Frag) : Sp := fun vs H Q _ => ∃ (x : V) (m : Int) (n : String), vs = [x, .int m] ∧ Ty K H x n ∧ Q (.bl (idxB m x)) H
def sp_is_width (K : PySem.W.Frag) : Sp := fun vs H Q _ => ∃ x n, vs = [x] ∧ Ty K H x n ∧ Q (.bl (widthB x)) H
def sp_are_worths (K : PySem.W.Frag) : Sp := fun vs H Q _ => ∃ x, vs = [x] ∧ Th K H 1 x ∧ ∀ H', Same H H' → Q (.bl (worthsB H x)) H'
def sp_is_content (K : PySem.W.Frag) : Sp := fun vs H Q _ => ∃ x, vs = [x] ∧ Th K H 1 x ∧ ∀ H', Same H H' → Q (.bl (contentB H x)) H'
def sp_is_step (K : PySem.W.Frag) : Sp := fun vs H Q _ => ∃ (m : Int) (x : V), vs = [.int m, x] ∧ Th K H 2 x ∧ ∀ H', Same H H' → Q (.bl (stepB H m x)) H'
def sp_are_steps (K : PySem.W.Frag) (spr : Sp) : Sp := fun vs H Q _ => ∃ (m wd : Int) (x : V), vs = [.int m, .int wd, x] ∧ Th K H 3 x ∧ (stepsB H m x = false → ∀ H', Same H H' → Q (.bl false) H') ∧ (stepsB H m x = true → ∀ H', Same H H' → spr [.int wd, x] H' Q E0)
section
variable {P : Program} {w : World} {K : PySem.W.Frag} {mg : Str → Option Value} {base : Heap}
theorem ok_is_integer {f : Addr} {fd : FuncData} (F : Fun K "is_integer" "is_integer" s_is_integer f fd) (T : Txt mg) : FnOk P w K mg base CX0 1 f fd ["thing"] (sp_is_integer K) := by
  refine F.ok sc_is_integer (fun vs H Q E h => ?_) (fun cdv A outer s H vs Q E hr h => ?_)
  · obtain ⟨_, _, rfl, _⟩ := h
    rfl
  obtain ⟨x, n, rfl, t, k⟩ := h
  refine ⟨_, (pss_one (ps_ret (pe_and (pe_callB call_isi' (by rfl) T.isinstance (by decide +kernel) (pa_cons (pv 0) (pa_cons (pe_bltn (v := .ty "int") (by rfl) T.int (by decide +kernel) rfl) pa_nil))) (pe_one (pe_not (pe_callB call_isi' (by rfl) T.isinstance (by decide +kernel) (pa_cons (pv 0) (pa_cons (pe_bltn (v := .ty "bool") (by rfl) T.bool (by decide +kernel) rfl) pa_nil)))))))), ?_⟩
  refine ⟨_, rfl, x, n, "int", rfl, t, by decide, _, rfl, ?_⟩
  cases c : isB n "int" with
  | true =>
    refine ⟨_, rfl, x, n, "bool", rfl, t, by decide, _, rfl, ?_⟩
    rw [int_one n t.mem c]
    exact k
  | false =>
    rw [int_two n t.mem c] at k
    exact k
theorem ok_is_index {f : Addr} {fd : FuncData} (F : Fun K "is_index" "is_index" s_is_index f fd) (T : Txt mg) (c_is_integer : Cal P w K mg base 1 "is_integer" ["thing"] (sp_is_integer K)) : FnOk P w K mg base CX0 2 f fd ["thing", "many"] (sp_is_index K) := by
  refine F.ok sc_is_index (fun vs H Q E h => ?_) (fun cdv A outer s H vs Q E hr h => ?_)
  · obtain ⟨_, _, _, rfl, _⟩ := h
    rfl
  obtain ⟨x, m, n, rfl, t, k⟩ := h
  refine ⟨_, (pss_one (ps_ret (pe_and (pe_cal c_is_integer hr (pa_cons (pv 0) pa_nil)) (pe_one (pe_chain op_le op_lt pe_int (pv 0) (pv 1)))))), ?_⟩
  refine ⟨_, rfl, x, n, rfl, t, _, rfl, ?_⟩
  by_cases c : n = "int"
  · rw [decide_eq_true c]
    obtain ⟨i, rfl⟩ := ty_int t c
    refine ⟨_, rfl, _, _, rfl, rfl, _, rfl, ?_⟩
    have e : idxB m (.int i) = (decide (0 ≤ i) && decide (i < m)) := rfl
    rw [e] at k
    cases c2 : decide ((0 : Int) ≤ i) with
    | true =>
      rw [c2] at k
      exact ⟨_, rfl, _, _, rfl, rfl, k⟩
    | false =>
      rw [c2] at k
      exact k
  · rw [decide_eq_false c]
    rw [idx_not (no_int t c)] at k
    exact k
theorem ok_is_width {f : Addr} {fd : FuncData} (F : Fun K "is_width" "is_width" s_is_width f fd) (T : Txt mg) (C : Cst K mg) (c_is_integer : Cal P w K mg base 1 "is_integer" ["thing"] (sp_is_integer K)) : FnOk P w K mg base CX0 2 f fd ["thing"] (sp_is_width K) := by
  obtain ⟨tk, c_MOST_CELLS⟩ := C.cells
  refine F.ok sc_is_width (fun vs H Q E h => ?_) (fun cdv A outer s H vs Q E hr h => ?_)
  · obtain ⟨_, _, rfl, _⟩ := h
    rfl
  obtain ⟨x, n, rfl, t, k⟩ := h
  refine ⟨_, (pss_one (ps_ret (pe_and (pe_cal c_is_integer hr (pa_cons (pv 0) pa_nil)) (pe_one (pe_chain op_le op_le pe_int (pv 0) (pe_glob (v := .int 24) rfl c_MOST_CELLS ⟨_, rfl⟩)))))), ?_⟩
  refine ⟨_, rfl, x, n, rfl, t, _, rfl, ?_⟩
  by_cases c : n = "int"
  · rw [decide_eq_true c]
    obtain ⟨i, rfl⟩ := ty_int t c
    refine ⟨_, rfl, _, _, rfl, rfl, _, rfl, ?_⟩
    have e : widthB (.int i) = (decide (1 ≤ i) && decide (i ≤ 24)) := rfl
    rw [e] at k
    cases c2 : decide ((1 : Int) ≤ i) with
    | true =>
      rw [c2] at k
      exact ⟨_, _, rfl, rfl, k⟩
    | false =>
      rw [c2] at k
      exact k
  · rw [decide_eq_false c]
    rw [width_not (no_int t c)] at k
    exact k
theorem ok_are_worths {f : Addr} {fd : FuncData} (F : Fun K "are_worths" "are_worths" s_are_worths f fd) (T : Txt mg) (C : Cst K mg) (c_is_index : Cal P w K mg base 2 "is_index" ["thing", "many"] (sp_is_index K)) : FnOk P w K mg base CX0 3 f fd ["thing"] (sp_are_worths K) := by
  obtain ⟨aw, aw_m, aw_s⟩ := C.worths
  refine F.ok sc_are_worths (fun vs H Q E h => ?_) (fun cdv A outer s H vs Q E hr h => ?_)
  · obtain ⟨_, rfl, _⟩ := h
    rfl
  obtain ⟨x, rfl, th, k⟩ := h
  obtain ⟨n, t⟩ := th.ty
  refine ⟨_, (pss_cons (ps_cut (ps_if (PW.pt (pw_or (pt_not (pt_val (pe_callB call_isi' (by rfl) T.isinstance (by decide +kernel) (pa_cons (pv 0) (pa_cons (pe_bltn (v := .ty "tuple") (by rfl) T.tuple (by decide +kernel) rfl) pa_nil))))) (pw_or1 (pt_not (pt_truth (pv 0) (by intro _; rfl))))))
      (pss_one (ps_ret pe_bl))
      pss_nil))
    (pss_one (ps_ret (pe_callB (cr_all rfl) (by rfl) T.all (by decide +kernel) (pa_cons (pe_lc (own := [("part", 1)]) (g := (gName 1)) (tt := tYes) rfl sc_are_worths.nd (pi_tup (pv 0)) (blkOk_by (own := [("part", 1)]) (N := N_are_worths) (sc := defScope s_are_worths) (by decide +kernel)) (fun _ _ _ _ _ => pg_name (i := 1) sc_are_worths.nd rfl (Or.inl rfl)) (fun _ _ _ _ _ => pts_nil) (fun _ _ _ _ _ => (pe_cal c_is_index hr (pa_cons (pv 1) (pa_cons (pe_callB (r := rLenK K) call_lenK (by rfl) T.len (by decide +kernel) (pa_cons (pe_glob (v := .ref aw) rfl aw_m rfl) pa_nil)) pa_nil))))) pa_nil))))), ?_⟩
  refine ⟨fun σ' H' => ∃ a xs, x = .ref a ∧ H a = some (.tup xs) ∧ xs ≠ [] ∧ σ' = [some x, none] ∧ H = H', ?_, ?_⟩
  · refine ⟨_, rfl, x, n, "tuple", rfl, t, by decide, _, rfl, ?_⟩
    by_cases c : n = "tuple"
    · obtain ⟨a, xs, rfl, ha⟩ := ty_tup t c
      have e : (!isB n "tuple") = false := by rw [c]; decide
      rw [e]
      refine ⟨_, rfl, !xs.isEmpty, .inr (.inl ⟨xs, SqT.of ha, rfl⟩), ?_⟩
      cases xs with
      | nil =>
        have z := k H (Same.refl H)
        rw [worths_at ha] at z
        exact z
      | cons y ys => exact ⟨a, _, rfl, ha, by simp, rfl, rfl⟩
    · rw [tup_not n t.mem c]
      have z := k H (Same.refl H)
      rw [worths_not t c] at z
      exact z
  · rintro _ _ ⟨a, xs, rfl, ha, hne, rfl, rfl⟩
    obtain ⟨hl, hy⟩ := th.2 a xs rfl (.inl ha)
    refine ⟨_, rfl, a, rfl, ⟨xs, SqT.of ha⟩, fun D hD => lc_tup (K := K) (a := a) (xs := xs) (fun i H' => Same H H' ∧ H' D = some (.lst ((xs.take i).map fun y => V.bl (idxB 8 y)))) ?_ ?_ ?_ ?_⟩
    · exact ⟨same_new hD, upd_same⟩
    · rintro i H' _ ⟨s1, _⟩
      exact SqT.of (s1 _ _ ha)
    · rintro i y H' hx ⟨s1, h1⟩
      obtain ⟨n1, t1⟩ := (hy y (List.mem_of_getElem? hx)).ty
      have il : i < xs.length := (List.getElem?_eq_some_iff.mp hx).1
      refine ⟨rfl, _, rfl, aw, _, rfl, .inr (aw_s H'), y, 8, n1, rfl, t1.same s1, _, h1, ?_, same_mut s1 hD, ?_⟩
      · rw [List.length_map, List.length_take]
        exact szl (by omega)
      · rw [upd_same, List.take_add_one, hx]
        simp
    · rintro H' ⟨s1, h1⟩
      rw [List.take_length] at h1
      have z := k H' s1
      rw [worths_at ha] at z
      refine ⟨D, xs.map (idxB 8), rfl, SqL.of (by rw [h1, List.map_map]; rfl), ?_⟩
      have e : (!xs.isEmpty && xs.all (idxB 8)) = (xs.map (idxB 8)).all id := by
        cases xs with
        | nil => exact absurd rfl hne
        | cons y ys => simp
      rw [e] at z
      exact z
theorem ok_is_content {f : Addr} {fd : FuncData} (F : Fun K "is_content" "is_content" s_is_content f fd) (T : Txt mg) (C : Cst K mg) (c_are_worths : Cal P w K mg base 3 "are_worths" ["thing"] (sp_are_worths K)) : FnOk P w K mg base CX0 4 f fd ["thing"] (sp_is_content K) := by
  obtain ⟨tk, c_MOST_CELLS⟩ := C.cells
  refine F.ok sc_is_content (fun vs H Q E h => ?_) (fun cdv A outer s H vs Q E hr h => ?_)
  · obtain ⟨_, rfl, _⟩ := h
    rfl
  obtain ⟨x, rfl, th, k⟩ := h
  refine ⟨_, (pss_one (ps_ret (pe_and (pe_cal c_are_worths hr (pa_cons (pv 0) pa_nil)) (pe_one (pe_cmpR op_le (pe_callB call_len' (by rfl) T.len (by decide +kernel) (pa_cons (pv 0) pa_nil)) (pe_glob (v := .int 24) rfl c_MOST_CELLS ⟨_, rfl⟩) (nomark _)))))), ?_⟩
  refine ⟨_, rfl, x, rfl, th, fun H1 s1 => ⟨_, rfl, ?_⟩⟩
  have z := k H1 s1
  unfold contentB at z
  cases c : worthsB H x with
  | true =>
    obtain ⟨a, xs, rfl, ha, _⟩ := worths_true c
    rw [c, len_at ha] at z
    refine ⟨_, rfl, a, xs, rfl, .inr (s1 _ _ ha), _, _, rfl, rfl, ?_⟩
    have e : decide (((xs.length : Nat) : Int) ≤ 24) = decide (xs.length ≤ 24) := decide_eq_decide.mpr (by omega)
    show Q (V.bl (decide (((xs.length : Nat) : Int) ≤ 24))) H1
    rw [e]
    exact z
  | false =>
    rw [c] at z
    exact z
theorem ok_is_step {f : Addr} {fd : FuncData} (F : Fun K "is_step" "is_step" s_is_step f fd) (T : Txt mg) (c_is_index : Cal P w K mg base 2 "is_index" ["thing", "many"] (sp_is_index K)) (c_are_worths : Cal P w K mg base 3 "are_worths" ["thing"] (sp_are_worths K)) : FnOk P w K mg base CX0 4 f fd ["cells", "thing"] (sp_is_step K) := by
  refine F.ok sc_is_step (fun vs H Q E h => ?_) (fun cdv A outer s H vs Q E hr h => ?_)
  · obtain ⟨_, _, rfl, _⟩ := h
    rfl
  obtain ⟨m, x, rfl, th, k⟩ := h
  obtain ⟨n, t⟩ := th.ty
  refine ⟨_, (pss_cons (ps_if (pt_cmpR op_isN (pv 1) pe_non (nomark _))
      (pss_one (ps_ret pe_bl))
      pss_nil)
    (pss_cons (ps_cut (ps_if (PW.pt (pw_or (pt_not (pt_val (pe_callB call_isi' (by rfl) T.isinstance (by decide +kernel) (pa_cons (pv 1) (pa_cons (pe_bltn (v := .ty "tuple") (by rfl) T.tuple (by decide +kernel) rfl) pa_nil))))) (pw_or1 (pt_cmpR op_ne (pe_callB call_len' (by rfl) T.len (by decide +kernel) (pa_cons (pv 1) pa_nil)) pe_int (nomark _)))))
      (pss_one (ps_ret pe_bl))
      pss_nil))
    (pss_cons (ps_asg (pv 1) (pg_tup rfl (pgs_cons (pg_name (i := 2) sc_is_step.nd rfl (Or.inl rfl)) (pgs_cons (pg_name (i := 3) sc_is_step.nd rfl (Or.inl rfl)) pgs_nil))))
    (pss_one (ps_ret (pe_and (pe_cal c_is_index hr (pa_cons (pv 2) (pa_cons (pv 0) pa_nil))) (pe_and (pe_cal c_are_worths hr (pa_cons (pv 3) pa_nil)) (pe_one (pe_cmpR op_le (pe_op op_add (pv 2) (pe_callB call_len' (by rfl) T.len (by decide +kernel) (pa_cons (pv 3) pa_nil))) (pv 0) (nomark _)))))))))), ?_⟩
  refine ⟨_, rfl, rfl, _, rfl, ite2 (fun c0 => ?_) (fun c0 => ?_)⟩
  · have e : x = .non := of_decide_eq_true c0
    subst e
    exact k H (Same.refl H)
  have xn : x ≠ .non := fun e => c0 (decide_eq_true e)
  refine ⟨fun σ' H' => ∃ a f ws, x = .ref a ∧ H a = some (.tup [f, ws]) ∧ σ' = [some (.int m), some x, none, none] ∧ H = H', ?_, ?_⟩
  · refine ⟨_, rfl, x, n, "tuple", rfl, t, by decide, _, rfl, ?_⟩
    by_cases c : n = "tuple"
    · obtain ⟨a, xs, rfl, ha⟩ := ty_tup t c
      have e : (!isB n "tuple") = false := by rw [c]; decide
      rw [e]
      refine ⟨_, rfl, a, xs, rfl, .inr ha, rfl, _, rfl, ite2 (fun c => ?_) (fun c => ?_)⟩
      · have z := k H (Same.refl H)
        have e2 : stepB H m (.ref a) = false := by
          unfold stepB
          simp only [ha]
          split
          · rename_i f ws e3
            cases e3
            exact absurd c (by show ¬ (!decide (V.int 2 = V.int 2)) = true; decide)
          · rfl
        rw [e2] at z
        exact z
      · have hl : xs.length = 2 := by
          have c' : ¬ (!decide (V.int ((xs.length : Nat) : Int) = V.int 2)) = true := c
          by_cases q : xs.length = 2
          · exact q
          · refine absurd ?_ c'
            rw [decide_eq_false (fun e => q (by injection e; omega))]
            rfl
        match xs, hl with
        | [f, ws], _ => exact ⟨a, f, ws, rfl, ha, rfl, rfl⟩
    · rw [tup_not n t.mem c]
      have z := k H (Same.refl H)
      have e2 : stepB H m x = false := by
        have z2 := no_tup t c
        cases x with
        | non => exact absurd rfl xn
        | ref a =>
          unfold stepB
          simp only
          split
          · rename_i e3
            exact absurd e3 (z2 a _ rfl)
          · rfl
        | _ => rfl
      rw [e2] at z
      exact z
  · rintro _ _ ⟨a, f, ws, rfl, ha, rfl, rfl⟩
    obtain ⟨hl, hy⟩ := th.2 a _ rfl (.inl ha)
    obtain ⟨n1, t1⟩ := (hy f (List.mem_cons_self)).ty
    have th2 := hy ws (List.mem_cons_of_mem _ List.mem_cons_self)
    have e2 : stepB H m (.ref a) = (idxB m f && worthsB H ws && addB m (lenB H ws) f) := by
      unfold stepB
      simp only [ha]
    refine ⟨_, rfl, a, _, rfl, SqT.of ha, rfl, _, _, rfl, _, _, rfl, rfl, ?_⟩
    refine ⟨_, rfl, _, rfl, f, m, n1, rfl, t1, _, rfl, ?_⟩
    rw [e2] at k
    cases c1 : idxB m f with
    | false =>
      rw [c1] at k
      exact k H (Same.refl H)
    | true =>
      rw [c1] at k
      refine ⟨_, rfl, ws, rfl, th2, fun H1 s1 => ⟨_, rfl, ?_⟩⟩
      have z := k H1 s1
      cases c2 : worthsB H ws with
      | false =>
        rw [c2] at z
        exact z
      | true =>
        rw [c2] at z
        obtain ⟨b, ys, rfl, hb, _⟩ := worths_true c2
        rw [len_at hb] at z
        cases f with
        | int i => exact ⟨_, rfl, _, rfl, b, ys, rfl, .inr (s1 _ _ hb), _, _, rfl, rfl, _, rfl, _, _, rfl, rfl, z⟩
        | _ => cases c1
theorem ok_are_steps {f : Addr} {fd : FuncData} {spr : Sp} (F : Fun K "are_steps" "are_steps" s_are_steps f fd) (T : Txt mg) (c_is_step : Cal P w K mg base 4 "is_step" ["cells", "thing"] (sp_is_step K)) (c_is_room : Cal P w K mg base 3 "is_room" ["width", "steps"] spr) : FnOk P w K mg base CX0 5 f fd ["cells", "width", "thing"] (sp_are_steps K spr) := by
  refine F.ok sc_are_steps (fun vs H Q E h => ?_) (fun cdv A outer s H vs Q E hr h => ?_)
  · obtain ⟨_, _, _, rfl, _⟩ := h
    rfl
  obtain ⟨m, wd, x, rfl, th, k0, k1⟩ := h
  obtain ⟨n, t⟩ := th.ty
  refine ⟨_, (pss_cons (ps_cut (ps_if (PW.pt (pw_or (pt_not (pt_val (pe_callB call_isi' (by rfl) T.isinstance (by decide +kernel) (pa_cons (pv 2) (pa_cons (pe_bltn (v := .ty "list") (by rfl) T.list (by decide +kernel) rfl) pa_nil))))) (pw_or1 (pt_not (pt_val (pe_callB (cr_all rfl) (by rfl) T.all (by decide +kernel) (pa_cons (pe_lc (own := [("step", 3)]) (g := (gName 3)) (tt := tYes) rfl sc_are_steps.nd (pi_list (pv 2)) (blkOk_by (own := [("step", 3)]) (N := N_are_steps) (sc := defScope s_are_steps) (by decide +kernel)) (fun _ _ _ _ _ => pg_name (i := 3) sc_are_steps.nd rfl (Or.inl rfl)) (fun _ _ _ _ _ => pts_nil) (fun _ _ _ _ _ => (pe_cal c_is_step hr (pa_cons (pv 0) (pa_cons (pv 3) pa_nil))))) pa_nil)))))))
      (pss_one (ps_ret pe_bl))
      pss_nil))
    (pss_one (ps_ret (pe_cal c_is_room hr (pa_cons (pv 1) (pa_cons (pv 2) pa_nil)))))), ?_⟩
  refine ⟨fun σ' H' => stepsB H m x = true ∧ σ' = [some (.int m), some (.int wd), some x, none] ∧ Same H H', ?_, ?_⟩
  · refine ⟨_, rfl, x, n, "list", rfl, t, by decide, _, rfl, ?_⟩
    by_cases c : n = "list"
    · obtain ⟨a, xs, rfl, ha⟩ := ty_lst t c
      obtain ⟨hl, hy⟩ := th.2 a xs rfl (.inr ha)
      have e : isB n "list" = true := by rw [c]; decide
      rw [e]
      refine ⟨_, rfl, a, rfl, ⟨xs, SqL.of ha⟩, fun D hD => lc_list (K := K) (a := a) (xs := xs) (fun i H' => Same H H' ∧ H' D = some (.lst ((xs.take i).map fun y => V.bl (stepB H m y)))) ?_ ?_ ?_ ?_⟩
      · exact ⟨same_new hD, upd_same⟩
      · rintro i H' _ ⟨s1, _⟩
        exact SqL.of (s1 _ _ ha)
      · rintro i y H' hx ⟨s1, h1⟩
        have th2 := hy y (List.mem_of_getElem? hx)
        have il : i < xs.length := (List.getElem?_eq_some_iff.mp hx).1
        refine ⟨rfl, _, rfl, _, rfl, m, y, rfl, th2.same s1, fun H2 s2 => ⟨_, s2 _ _ h1, ?_, same_mut (s1.trans s2) hD, ?_⟩⟩
        · rw [List.length_map, List.length_take]
          exact szl (by omega)
        · rw [upd_same, List.take_add_one, hx, step_same th2 s1]
          simp
      · rintro H' ⟨s1, h1⟩
        rw [List.take_length] at h1
        have e2 : stepsB H m (.ref a) = (xs.map (stepB H m)).all id := by
          unfold stepsB
          simp only [ha]
          simp
        refine ⟨D, xs.map (stepB H m), rfl, SqL.of (by rw [h1, List.map_map]; rfl), ?_⟩
        rw [← e2]
        refine ⟨_, rfl, ?_⟩
        cases e3 : stepsB H m (.ref a) with
        | true => exact iteF ⟨rfl, rfl, s1⟩
        | false => exact iteT (k0 e3 H' s1)
    · rw [lst_not n t.mem c]
      have e2 : stepsB H m x = false := by
        cases x with
        | ref a =>
          unfold stepsB
          simp only
          split
          · rename_i e3
            exact absurd (ty_is_lst t e3) c
          · rfl
        | _ => rfl
      exact k0 e2 H (Same.refl H)
  · rintro _ H1 ⟨e3, rfl, s1⟩
    exact ⟨_, rfl, _, rfl, k1 e3 H1 s1⟩
end
end Af

set_option Elab.async false
set_option linter.all false
set_option maxRecDepth 100000
namespace Af
open PySem PySem.Calls PySem.Spec PyProof.Rows L2
/-! == and != of an instance whose class has its own __eq__ and no __ne__ -/
section
variable {M : Model} {prog : Program} {w : World} {A : Around} {E : Value → Shared → Prop} {s : Shared} {K : PySem.W.Frag} {x C L f : Addr} {ox : Obj} {od : Option Obj} {b tb : Value} {h₀ : Heap} {m : Str → Option Value}
theorem ifBound_ne {args : List Value} {Q : Option Value → Shared → Prop} (X : K.In s.heap) (I : PySem.W.InstAt s.heap x ox C od) (hs : PySem.W.findIn K (.ref C) "__ne__" = some (some (.builtin "object.__ne__")))
    (h : wpAny M A (call (.builtin "object.__ne__") (.ref x :: args)) (fun v => Q (some v)) E s) : wpAny M A (callSpecialIfBound? (.ref x) "__ne__" args) Q E s := by
  simp only [callSpecialIfBound?, bindSpecialIfBound?]
  refine wpAny_holding (wpAny_bind (wpAny_bind (wpAny_bind (I.type.here ((PySem.W.looks_findIn X hs).here ?_)))))
  refine wpAny_bind (wpAny_askSetting (wpAny_ite ?_))
  have last : wpAny M A (call (.builtin "object.__ne__") ([.ref x] ++ args) >>= fun v => pure (some v)) Q E s := wpAny_bind (wpAny_mono h (fun _ _ q => wpAny_pure q) fun _ _ q => q)
  split
  · exact wpAny_bind (wpAny_of_eq (F.cmp_object.ne.bind _) (wpAny_pure (by exact last)))
  · exact wpAny_tryCatch (wpAny_bind (wpAny_of_eq (F.cmp_object.ne.bind _) (wpAny_pure (by exact last))))
theorem entry_ne {Q : Fin → Shared → Prop} (hu : A.units < cLine) (X : K.In s.heap) (I : PySem.W.InstAt s.heap x ox C od) (hs : PySem.W.findIn K (.ref C) "__eq__" = some (some (.ref f))) (hf : PySem.W.isFn K (.ref f) = true)
    (h : wpAny (model prog w) A (call (.ref f) [.ref x, b]) (fun v s' => ∃ r, v = .bool r ∧ Q (.done (.ret (.bool (!r)))) s') E s) :
    wpAny (model prog w) A (Builtin.«object.__ne__» ⟨[.ref x, b], []⟩) Q E s := by
  unfold Builtin.«object.__ne__»
  repeat (first
    | with_reducible refine wpAny_cRoomFor hu ?_
    | (refine wpAny_bind (m := callSpecialIfBound? (.ref x) (Str.ofString "__eq__") [b])
        (PySem.W.ifBound_K X I hs hf (wpAny_mono h (fun r s' hr => by
          obtain ⟨b, rfl, hq⟩ := hr
          repeat (first | exact hq | exact wpAny_pure hq | exact wpAny_truthy_bool hq | (refine wpAny_bind (m := truthy (.bool _)) (wpAny_truthy_bool ?_)) | wp_step)) fun _ _ e => e)))
    | wp_step)
theorem rc_ne {Q : Value → Shared → Prop} (hu : A.units + 1 < cLine) (Y : PyProof.Rows.Fr h₀ L s.heap m) (X₀ : K.In h₀) (I : PySem.W.InstAt s.heap x ox C od) (hb : PySem.W.Looks (model prog w) s.heap (typeOf b) tb) (hn : PySem.W.notFirst K C tb = true)
    (hs : PySem.W.findIn K (.ref C) "__eq__" = some (some (.ref f))) (hf : PySem.W.isFn K (.ref f) = true) (hne : PySem.W.findIn K (.ref C) "__ne__" = some (some (.builtin "object.__ne__"))) (hm : PySem.W.mroIn K C (.type "object") = some true)
    (h : wpAny (model prog w) A.in1 (call (.ref f) [.ref x, b]) (fun v s' => ∃ r, v = .bool r ∧ Q (.bool (!r)) s') E s) : wpAny (model prog w) A (richCompare .NotEq (.ref x) b) Q E s := by
  have X := X₀.keeps Y.keep
  have one : wpAny (model prog w) A (tryCompare (.ref x) "__ne__" b) (fun r s' => ∃ v, r = some v ∧ Q v s') E s := by
    unfold tryCompare
    refine wpAny_bind (ifBound_ne X I hne (wpAny_call (codeAny_call_builtin F.cmp_object.ne.plain F.cmpEntry_ne (PySem.W.check_slot F.cmpKind_ne F.cmpSplit_ne (I.type.andThen (PySem.W.looks_mroIn X hm)) (F.cmpArgs_ne _ _) (entry_ne (A := A.in1) hu X I hs hf (wpAny_mono h (fun v s' z => ?_) fun _ _ e => e))))))
    obtain ⟨r, rfl, hq⟩ := z
    exact ⟨r, rfl, wpAny_pure ⟨_, rfl, hq⟩⟩
  unfold richCompare
  simp only [oneThing_ref]
  refine wpAny_holding (wpAny_bind (wpAny_cRoomFor (Nat.lt_of_succ_lt hu) ?_))
  refine wpAny_bind (I.type.here (wpAny_bind (hb.here ?_)))
  have go : wpAny (model prog w) A (tryCompare (.ref x) "__ne__" b) (fun r s' => ∃ v, r = some v ∧ Q v s') E s := one
  split
  · rename_i q
    have e : PySem.W.subIn K tb (.ref C) = some false := by
      rcases Bool.or_eq_true_iff.mp hn with e | e
      · rw [beq_iff_eq.mp e] at q; simp at q
      · exact beq_iff_eq.mp e
    refine wpAny_bind ((PySem.W.looks_subIn X e).here ?_)
    simp only [Bool.false_eq_true, if_false]
    refine wpAny_bind (wpAny_mono one (fun r s' z => ?_) fun _ _ e => e)
    obtain ⟨v, rfl, hq⟩ := z
    exact wpAny_pure hq
  · refine wpAny_bind (wpAny_pure ?_)
    simp only [Bool.false_eq_true, if_false]
    refine wpAny_bind (wpAny_mono one (fun r s' z => ?_) fun _ _ e => e)
    obtain ⟨v, rfl, hq⟩ := z
    exact wpAny_pure hq
end
/-- what is asked of the class at C for its own == -/
structure OwnEqC (K : PySem.W.Frag) (C f : Addr) : Prop where
  eq : PySem.W.findIn K (.ref C) "__eq__" = some (some (.ref f))
  fn : PySem.W.isFn K (.ref f) = true
  ne : PySem.W.findIn K (.ref C) "__ne__" = some (some (.builtin "object.__ne__"))
  ob : PySem.W.mroIn K C (.type "object") = some true
/-- x == y where x is an instance: what the own __eq__ promises, which answers a bool -/
def rOwnEq (K : PySem.W.Frag) (C : Addr) (sp : Sp) : R2 := fun x y H Q => ∃ a dx fs t, x = .ref a ∧ H a = some (.ins C dx fs) ∧ TyX K H y t ∧ PySem.W.notFirst K C t = true ∧ sp [x, y] H (fun v H' => ∃ b, v = .bl b ∧ Q (.bl b) H') E0
def rOwnNe (K : PySem.W.Frag) (C : Addr) (sp : Sp) : R2 := fun x y H Q => ∃ a dx fs t, x = .ref a ∧ H a = some (.ins C dx fs) ∧ TyX K H y t ∧ PySem.W.notFirst K C t = true ∧ sp [x, y] H (fun v H' => ∃ b, v = .bl b ∧ Q (.bl (!b)) H') E0
section
variable {X : Cx} {C f : Addr} {fd : FuncData} {ps : List Str} {sp : Sp} {k n : Nat}
theorem own_run (G : FnOk X.prog X.w X.K X.mg X.base CX0 k f fd ps sp) (hb : Binds X.K fd ps []) {A : Around} (hr : Room k A) (hA : A.frames = X.A.frames) {pins : List (Addr × Obj)} {s : Shared} {σ : L2.St} {H : Hp} {x y : V} {v u : Value} (I : Inv X pins σ H s) (rx : RelV x v) (ry : RelV y u)
    {Q : VK} (hq : sp [x, y] H Q E0) : wpAny (model X.prog X.w) A (call (.ref f) [v, u]) (fun r s' => EP X pins σ Q r s') X.xe s := by
  have e0 : Env0 X.prog X.w X.K X.mg X.base A X.stack s H := by
    have e := I.env0
    exact ⟨by rw [hA]; exact e.frames, e.mod, e.bs, e.bsz, e.funs, e.frf, e.hok, e.bare⟩
  have hl := G.len _ _ _ _ hq
  refine wpAny_call (codeAny_mono (G.run A X.stack s H ⟨[v, u], []⟩ [v, u] [x, y] _ E0 hr e0 (by
    have := hb s [v, u] I.kIn (by simpa using hl)
    simpa using this) (.cons rx (.cons ry .nil)) hq) fun r s' z => ?_)
  cases r with
  | error e => exact pass0 pins σ H s e s' I z
  | ok fl =>
    cases fl with
    | ret w => exact I.after z
    | next => exact False.elim z
    | brk => exact False.elim z
    | cont => exact False.elim z
theorem op_ownEq (O : OwnEqC X.K C f) (G : FnOk X.prog X.w X.K X.mg X.base CX0 k f fd ps sp) (hb : Binds X.K fd ps []) (hr : Room n X.A) (hkn : k ≤ n := by decide) : OpR X (compareOp .Eq) (rOwnEq X.K C sp) := by
  intro pins s σ H x y v u Q I rx ry h
  obtain ⟨a, dx, fs, t, rfl, ha, ty, nf, q⟩ := h
  cases (show v = Value.ref a from rx)
  obtain ⟨mA, J, _⟩ := ins_get I.hok ha
  obtain ⟨od, J, _⟩ := J.look
  obtain ⟨P, Z, p, _⟩ := kit_of I ry ty
  obtain ⟨m, hF⟩ := I.fr
  have lk := Z.ty (model X.prog X.w) s.heap I.kIn p
  show wpAny (model X.prog X.w) X.A (richCompare .Eq (.ref a) u) (EP X pins σ Q) X.xe s
  refine PySem.W.cmp_K (op := .Eq) (tb := t) hr.units0 hF I.ok.mod.kin J lk nf O.eq O.fn ?_
  refine wpAny_mono (own_run G hb (hr.mono hkn) rfl (x := .ref a) (v := .ref a) I rfl ry q) (fun r s' z => ?_) fun _ _ z => z
  obtain ⟨v', H', I', rv, b, e, z⟩ := z
  subst e
  cases (show r = Value.bool b from rv)
  exact ⟨.bl b, H', I', rfl, z⟩
theorem op_ownNe (O : OwnEqC X.K C f) (G : FnOk X.prog X.w X.K X.mg X.base CX0 k f fd ps sp) (hb : Binds X.K fd ps []) (hr : Room n X.A) (hkn : k + 1 ≤ n := by decide) : OpR X (compareOp .NotEq) (rOwnNe X.K C sp) := by
  intro pins s σ H x y v u Q I rx ry h
  obtain ⟨a, dx, fs, t, rfl, ha, ty, nf, q⟩ := h
  cases (show v = Value.ref a from rx)
  obtain ⟨mA, J, _⟩ := ins_get I.hok ha
  obtain ⟨od, J, _⟩ := J.look
  obtain ⟨P, Z, p, _⟩ := kit_of I ry ty
  obtain ⟨m, hF⟩ := I.fr
  have lk := Z.ty (model X.prog X.w) s.heap I.kIn p
  show wpAny (model X.prog X.w) X.A (richCompare .NotEq (.ref a) u) (EP X pins σ Q) X.xe s
  have hr' : Room (k + 1) X.A := hr.mono hkn
  refine rc_ne (tb := t) hr'.in1.units0 hF I.ok.mod.kin J lk nf O.eq O.fn O.ne O.ob ?_
  refine wpAny_mono (own_run G hb hr'.in1 rfl (x := .ref a) (v := .ref a) I rfl ry q) (fun r s' z => ?_) fun _ _ z => z
  obtain ⟨v', H', I', rv, b, e, z⟩ := z
  subst e
  cases (show r = Value.bool b from rv)
  exact ⟨b, rfl, .bl (!b), H', I', rfl, z⟩
end
end Af

set_option Elab.async false
set_option linter.all false
set_option maxRecDepth 100000
set_option maxHeartbeats 4000000
namespace Af
open PySem L2
abbrev s_is_room : Stmt := top 18
abbrev N_is_room : List Str := ["width", "steps"]
theorem sc_is_room : FnScope N_is_room ["width", "steps"] (defScope s_is_room) := ⟨rfl, rfl, rfl, by decide +kernel, rfl, by decide +kernel, by decide +kernel⟩

abbrev s_Plan___init : Stmt := inClass (top 23) 0
abbrev N_Plan___init : List Str := ["self", "base", "width", "steps", "epochs", "piece"]
theorem sc_Plan___init : FnScope N_Plan___init ["self", "base", "width", "steps"] (defScope s_Plan___init) := ⟨rfl, rfl, rfl, by decide +kernel, rfl, by decide +kernel, by decide +kernel⟩

/-- what the text has written of the class -/
structure PlanC (K : PySem.W.Frag) (mg : Str → Option Value) (C : Addr) : Prop where
  cl : Cls K C
  nB : NoAttr K C "_base"
  nW : NoAttr K C "_width"
  nS : NoAttr K C "_steps"
  nP : NoAttr K C "_pieces"
  nE : NoAttr K C "_piece_epochs"
  nN : NoAttr K C "_epochs"
  mgC : mg "Plan" = some (.ref C)
  is1 : PySem.W.kitOne K (.ref C) (.ref C) = some true
  is0 : ∀ n ∈ tyNames, PySem.W.kitOne K (.type n) (.ref C) = some false
  first : ∀ n ∈ tyNames, PySem.W.notFirst K C (.type n) = true
  ha : PySem.W.findIn K (.ref C) "__class__" = some (some (.builtin "object.__class__"))
  hn : PySem.W.specialIn K (.builtin "object.__class__") "__get__" = some (some (.builtin "getset_descriptor.__get__"))
  htk : PySem.W.takesIn K (.builtin "object.__class__") = some true
  hm : PySem.W.mroIn K C (.type "object") = some true
theorem PlanC.ty {K : PySem.W.Frag} {mg : Str → Option Value} {C a dx : Addr} {fs : List (Str × V)} {H : Hp} (T : PlanC K mg C) (h : H a = some (.ins C dx fs)) : TyX K H (.ref a) (.ref C) := .base (.ins h T.cl T.ha T.hn T.htk T.hm)
/-- the parts of a plan that the program takes -/
structure OkP (pl : Pl) : Prop where
  c1 : 1 ≤ pl.cs.length
  c24 : pl.cs.length ≤ 24
  cb : ∀ z ∈ pl.cs, 0 ≤ z ∧ z < 8
  w1 : 1 ≤ pl.w
  w24 : pl.w ≤ 24
  st : ∀ x ∈ pl.sts, OkS pl.cs.length x
  sl : pl.sts.length ≤ 40
  pc : (allP pl.w 0 pl.sts).length ≤ 40
def sp_roomX : Sp := fun vs H Q _ => ∃ (wd : Int) (a : Addr) (xs : List V) (sts : List Stp), vs = [.int wd, .ref a] ∧ H a = some (.lst xs) ∧ Paired (StepV H) xs sts ∧ 0 < wd ∧ xs.length ≤ 40 ∧ (∀ x ∈ sts, OkS 24 x) ∧ (allP wd 0 sts).length ≤ 40 ∧
  ∀ H', Same H H' → Q (.bl true) H'
/-- the epoch of each piece -/
def pieceE (sts : List Stp) (ps : List (Int × (Int × List Int))) : List Int := ps.map fun p => ((eps 0 sts)[p.1.toNat]?).getD 0
theorem allP_in {w : Int} : ∀ {l : List Stp} {i : Nat} {p : Int × (Int × List Int)}, p ∈ allP w i l → ∃ j : Nat, p.1 = (j : Int) ∧ i ≤ j ∧ j < i + l.length
  | [], _, _, h => by cases h
  | a :: l, i, p, h => by
    have h' : p ∈ oneP w i a ++ allP w (i + 1) l := h
    rcases List.mem_append.mp h' with h | h
    · cases a with
      | none => cases h
      | some fw =>
        obtain ⟨f, ws⟩ := fw
        obtain ⟨y, _, rfl⟩ := List.mem_map.mp h
        exact ⟨i, rfl, Nat.le_refl _, by rw [List.length_cons]; omega⟩
    · obtain ⟨j, h1, h2, h3⟩ := allP_in h
      exact ⟨j, h1, by omega, by rw [List.length_cons]; omega⟩
def sp_initX (C : Addr) : Sp := fun vs H Q _ => ∃ (x dx ca sa : Addr) (pl : Pl) (xs : List V), vs = [.ref x, .ref ca, .int pl.w, .ref sa] ∧ H x = some (.ins C dx []) ∧ H ca = some (.tup (ivs pl.cs)) ∧ H sa = some (.lst xs) ∧ Paired (StepV H) xs pl.sts ∧ OkP pl ∧
  ∀ H' (sl ql el : Addr) (fs : List (Str × V)) (ys : List V), (∀ a o, a ≠ x → H a = some o → H' a = some o) → H sl = none → H ql = none → H el = none → H' x = some (.ins C dx fs) → fs.lookup ("_base" : Str) = some (.ref ca) → fs.lookup ("_width" : Str) = some (.int pl.w) → fs.lookup ("_steps" : Str) = some (.ref sl) →
    fs.lookup ("_pieces" : Str) = some (.ref ql) → fs.lookup ("_piece_epochs" : Str) = some (.ref el) → fs.lookup ("_epochs" : Str) = some (.int ((bars pl.sts : Nat) + 1)) → fs.lookup ("epoch_of" : Str) = none → H' sl = some (.lst xs) → H' ql = some (.lst ys) → Paired (PieceA H') ys (allP pl.w 0 pl.sts) → H' el = some (.lst (ivs (pieceE pl.sts (allP pl.w 0 pl.sts)))) → Q .non H'
theorem all_idx {ns : List Int} {m : Int} (h : ∀ z ∈ ns, 0 ≤ z ∧ z < m) : (ivs ns).all (idxB m) = true := by
  refine List.all_eq_true.mpr fun x hx => ?_
  obtain ⟨z, hz, rfl⟩ := List.mem_map.mp hx
  obtain ⟨a, b⟩ := h z hz
  show (decide (0 ≤ z) && decide (z < m)) = true
  rw [decide_eq_true a, decide_eq_true b]
  rfl
theorem ivs_ne {ns : List Int} (h : ns ≠ []) : (!(ivs ns).isEmpty) = true := by
  cases ns with
  | nil => exact absurd rfl h
  | cons a b => rfl
theorem th_ints {K : PySem.W.Frag} {H : Hp} {a : Addr} {ns : List Int} (h : H a = some (.tup (ivs ns))) (hl : ns.length ≤ 100000) {d : Nat} : Th K H (d + 1) (.ref a) := by
  refine th_tup h (by rw [ivs_len]; exact hl) fun y hy => ?_
  obtain ⟨z, _, rfl⟩ := List.mem_map.mp hy
  exact th_int
theorem content_ok {H : Hp} {a : Addr} {ns : List Int} (h : H a = some (.tup (ivs ns))) (c1 : 1 ≤ ns.length) (c2 : ns.length ≤ 24) (cb : ∀ z ∈ ns, 0 ≤ z ∧ z < 8) : contentB H (.ref a) = true := by
  unfold contentB
  rw [worths_at h, len_at h, ivs_ne (fun z => by rw [z] at c1; exact absurd c1 (by decide)), all_idx cb, ivs_len, decide_eq_true c2]
  rfl
theorem width_ok {w : Int} (h1 : 1 ≤ w) (h2 : w ≤ 24) : widthB (.int w) = true := by
  show (decide (1 ≤ w) && decide (w ≤ 24)) = true
  rw [decide_eq_true h1, decide_eq_true h2]
  rfl
theorem step_ok {H : Hp} {x : V} {st : Stp} {n : Nat} (h : StepV H x st) (o : OkS n st) : stepB H (n : Int) x = true := by
  cases st with
  | none =>
    have e : x = .non := h
    subst e
    rfl
  | some fw =>
    obtain ⟨f, ws⟩ := fw
    obtain ⟨a, b, rfl, h1, h2⟩ := h
    obtain ⟨o1, o2, o3, o4⟩ := o
    have hp : 0 < ws.length := List.length_pos_iff.mpr o2
    have e : stepB H (n : Int) (.ref a) = (idxB (n : Int) (.int f) && worthsB H (.ref b) && addB (n : Int) (lenB H (.ref b)) (.int f)) := by
      unfold stepB
      simp only [h1]
    rw [e, worths_at h2, len_at h2, ivs_ne o2, all_idx o4, ivs_len]
    show ((decide (0 ≤ f) && decide (f < (n : Int))) && (true && true) && decide (f + (ws.length : Int) ≤ (n : Int))) = true
    rw [decide_eq_true o1, decide_eq_true o3, decide_eq_true (by omega)]
    rfl
theorem th_step {K : PySem.W.Frag} {H : Hp} {x : V} {st : Stp} {n : Nat} (h : StepV H x st) (o : OkS n st) (hn : n ≤ 1000) : Th K H 2 x := by
  cases st with
  | none =>
    have e : x = .non := h
    subst e
    exact th_non
  | some fw =>
    obtain ⟨f, ws⟩ := fw
    obtain ⟨a, b, rfl, h1, h2⟩ := h
    obtain ⟨o1, o2, o3, o4⟩ := o
    refine th_tup h1 (by show 2 ≤ 100000; decide) fun y hy => ?_
    simp only [List.mem_cons, List.not_mem_nil, or_false] at hy
    rcases hy with rfl | rfl
    · exact th_int
    · exact th_ints h2 (by omega)
theorem paired_mem {α β : Type} {F : α → β → Prop} : ∀ {a : List α} {b : List β} {x : α}, Paired F a b → x ∈ a → ∃ y, y ∈ b ∧ F x y
  | _, _, _, .nil, h => by simp at h
  | _, _, x, .cons r t, h => by
    rcases List.mem_cons.mp h with rfl | h
    · exact ⟨_, List.mem_cons_self, r⟩
    · obtain ⟨y, h1, h2⟩ := paired_mem t h
      exact ⟨y, List.mem_cons_of_mem _ h1, h2⟩
theorem steps_ok {H : Hp} {a : Addr} {xs : List V} {sts : List Stp} {n : Nat} (h : H a = some (.lst xs)) (hst : Paired (StepV H) xs sts) (ok : ∀ x ∈ sts, OkS n x) : stepsB H (n : Int) (.ref a) = true := by
  have e : stepsB H (n : Int) (.ref a) = xs.all (stepB H (n : Int)) := by
    unfold stepsB
    simp only [h]
  rw [e]
  refine List.all_eq_true.mpr fun x hx => ?_
  obtain ⟨st, h1, h2⟩ := paired_mem hst hx
  exact step_ok h2 (ok st h1)
theorem th_steps {K : PySem.W.Frag} {H : Hp} {a : Addr} {xs : List V} {sts : List Stp} {n : Nat} (h : H a = some (.lst xs)) (hl : xs.length ≤ 100000) (hst : Paired (StepV H) xs sts) (ok : ∀ x ∈ sts, OkS n x) (hn : n ≤ 1000) : Th K H 3 (.ref a) := by
  refine th_lst h hl fun y hy => ?_
  obtain ⟨st, h1, h2⟩ := paired_mem hst hy
  exact th_step h2 (ok st h1) hn
theorem ok24 {n : Nat} {st : Stp} (h : OkS n st) (hn : n ≤ 24) : OkS 24 st := by
  cases st with
  | none => exact True.intro
  | some fw =>
    obtain ⟨f, ws⟩ := fw
    obtain ⟨o1, o2, o3, o4⟩ := h
    exact ⟨o1, o2, by omega, o4⟩
/-- fields that are set one after the other -/
def fs6 (ca : Addr) (w : Int) (sl pl pe : Addr) (n : V) : List (Str × V) := putF "_epochs" n (putF "_piece_epochs" (.ref pe) (putF "_pieces" (.ref pl) (putF "_steps" (.ref sl) (putF "_width" (.int w) (putF "_base" (.ref ca) [])))))
/-- all but the object at x stands -/
def Ko (x : Addr) (H H' : Hp) : Prop := ∀ a o, a ≠ x → H a = some o → H' a = some o
theorem Ko.same {x : Addr} {H H1 H2 : Hp} (k : Ko x H H1) (s : Same H1 H2) : Ko x H H2 := fun a o n e => s _ _ (k a o n e)
theorem Ko.upd {x : Addr} {H H1 : Hp} {o : HO} (k : Ko x H H1) : Ko x H (L2.upd H1 x o) := fun a u n e => by
  rw [upd_ne n]
  exact k a u n e
theorem steps_ko {x C dx : Addr} {fs : List (Str × V)} {H H' : Hp} (k : Ko x H H') (hx : H x = some (.ins C dx fs)) {xs : List V} {sts : List Stp} (h : Paired (StepV H) xs sts) : Paired (StepV H') xs sts := L2.Paired.mapP h fun v st z => by
  have nt : ∀ {a : Addr} {l : List V}, H a = some (.tup l) → H' a = some (.tup l) := fun {a l} e => k a _ (ne_of e hx (by intro q; cases q)) e
  cases st with
  | none => exact z
  | some fw =>
    obtain ⟨f, ws⟩ := fw
    obtain ⟨a, b, e, h1, h2⟩ := z
    exact ⟨a, b, e, nt h1, nt h2⟩
theorem int_in {ns : List Int} {j : Nat} (h : j < ns.length) : ∃ z : Int, (ivs ns)[j]? = some (.int z) := ⟨_, ivs_get h⟩
theorem len_put {f : Str} {v : V} {fs : List (Str × V)} {n : Nat} (h : fs.length ≤ n) : (putF f v fs).length ≤ n + 1 := Nat.le_trans (length_putF f v fs) (Nat.succ_le_succ h)
theorem put_at {f : Str} {v : V} {fs : List (Str × V)} : (putF f v fs).lookup f = some v := by
  rw [lookup_putF, if_pos rfl]
theorem put_no {f g : Str} {v u : V} {fs : List (Str × V)} (h : fs.lookup g = some u) (n : ¬ g = f := by decide +kernel) : (putF f v fs).lookup g = some u := by
  rw [lookup_putF, if_neg n]
  exact h
section
variable {P : Program} {w : World} {K : PySem.W.Frag} {mg : Str → Option Value} {base : Heap}
theorem ok_roomX {f : Addr} {fd : FuncData} (F : Fun K "is_room" "is_room" s_is_room f fd) (T : Txt mg) (C : Cst K mg) (c_pieces_of : Cal P w K mg base 2 "_pieces_of" ["width", "steps"] sp_piecesX) : FnOk P w K mg base CX0 3 f fd ["width", "steps"] sp_roomX := by
  obtain ⟨tk1, c_MOST_STEPS⟩ := C.steps
  obtain ⟨tk2, c_MOST_PIECES⟩ := C.pieces
  refine F.ok sc_is_room (fun vs H Q E h => ?_) (fun cdv A outer s H vs Q E hr h => ?_)
  · obtain ⟨_, _, _, _, rfl, _⟩ := h
    rfl
  obtain ⟨wd, a, xs, sts, rfl, ha, hst, w0, xl, ok, tl, k⟩ := h
  refine ⟨_, (pss_one (ps_ret (pe_and (pe_cmpR op_le (pe_callB call_len' (by rfl) T.len (by decide +kernel) (pa_cons (pv 1) pa_nil)) (pe_glob (v := .int 40) rfl c_MOST_STEPS ⟨_, rfl⟩) (nomark _)) (pe_one (pe_cmpR op_le (pe_callB call_len' (by rfl) T.len (by decide +kernel) (pa_cons (pe_cal c_pieces_of hr (pa_cons (pv 0) (pa_cons (pv 1) pa_nil))) pa_nil)) (pe_glob (v := .int 40) rfl c_MOST_PIECES ⟨_, rfl⟩) (nomark _)))))), ?_⟩
  refine ⟨_, rfl, a, xs, rfl, .inl ha, _, _, rfl, rfl, _, rfl, ?_⟩
  have e1 : decide (((xs.length : Nat) : Int) ≤ 40) = true := decide_eq_true (by omega)
  rw [e1]
  refine iteT ⟨_, rfl, _, rfl, wd, a, xs, sts, rfl, ha, hst, w0, by omega, ok, fun l H1 ys s1 hl h1 p1 => ?_⟩
  have yl := paired_len p1
  refine ⟨l, ys, rfl, .inl h1, _, _, rfl, rfl, ?_⟩
  have e2 : decide (((ys.length : Nat) : Int) ≤ 40) = true := decide_eq_true (by omega)
  show Q (V.bl (decide (((ys.length : Nat) : Int) ≤ 40))) H1
  rw [e2]
  exact k H1 s1
theorem ok_initX {f C : Addr} {fd : FuncData} (F : Fun K "__init__" "Plan.__init__" s_Plan___init f fd) (T : Txt mg) (TC : PlanC K mg C)
    (c_is_content : Cal P w K mg base 4 "is_content" ["thing"] (sp_is_content K)) (c_is_width : Cal P w K mg base 2 "is_width" ["thing"] (sp_is_width K)) (c_are_steps : Cal P w K mg base 5 "are_steps" ["cells", "width", "thing"] (sp_are_steps K sp_roomX))
    (c_epochs_of : Cal P w K mg base 1 "_epochs_of" ["steps"] sp_epochsX) (c_pieces_of : Cal P w K mg base 2 "_pieces_of" ["width", "steps"] sp_piecesX) :
    FnOk P w K mg base CX0 6 f fd ["self", "base", "width", "steps"] (sp_initX C) := by
  refine F.ok sc_Plan___init (fun vs H Q E h => ?_) (fun cdv A outer s H vs Q E hr h => ?_)
  · obtain ⟨_, _, _, _, _, _, rfl, _⟩ := h
    rfl
  obtain ⟨x, dx, ca, sa, pl, xs, rfl, hx, hca, hsa, hst, gd, k⟩ := h
  refine ⟨_, (pss_cons (ps_cut (ps_if (PW.pt (pw_or (pt_not (pt_val (pe_cal c_is_content hr (pa_cons (pv 1) pa_nil)))) (pw_or (pt_not (pt_val (pe_cal c_is_width hr (pa_cons (pv 2) pa_nil)))) (pw_or1 (pt_not (pt_val (pe_cal c_are_steps hr (pa_cons (pe_callB call_len' (by rfl) T.len (by decide +kernel) (pa_cons (pv 1) pa_nil)) (pa_cons (pv 2) (pa_cons (pv 3) pa_nil))))))))))
      (pss_one ps_never)
      pss_nil))
    (pss_cons (ps_set (i := 4) sc_Plan___init.nd rfl (Or.inr rfl) (pe_cal c_epochs_of hr (pa_cons (pv 3) pa_nil)))
    (pss_cons (ps_fld (pv 0) (pv 1) rfl)
    (pss_cons (ps_fld (pv 0) (pv 2) rfl)
    (pss_cons (ps_fld (pv 0) (pe_callTy call_list' (by rfl) T.list (by decide +kernel) (pa_cons (pv 3) pa_nil)) rfl)
    (pss_cons (ps_fld (pv 0) (pe_cal c_pieces_of hr (pa_cons (pv 2) (pa_cons (pv 3) pa_nil))) rfl)
    (pss_cons (ps_fld (pv 0) (pe_lc (own := [("piece", 5)]) (g := (gName 5)) (tt := tYes) rfl sc_Plan___init.nd (pi_list (pe_fld (pv 0) rfl)) (blkOk_by (own := [("piece", 5)]) (N := N_Plan___init) (sc := defScope s_Plan___init) (by decide +kernel)) (fun _ _ _ _ _ => pg_name (i := 5) sc_Plan___init.nd rfl (Or.inl rfl)) (fun _ _ _ _ _ => pts_nil) (fun _ _ _ _ _ => (pe_ix ix_seq' (pv 4) (pe_ix ix_seq' (pv 5) pe_int (fun _ _ => rfl)) (fun _ _ => rfl)))) rfl)
    (pss_one (ps_fld (pv 0) (pe_op op_add (pe_bm PySem.F.plainAttrs_list PySem.F.slot_list_count PySem.F.type_list_count (mt_countX (Nat.lt_of_le_of_lt (Nat.add_le_add_left (show 1 ≤ 64 by decide) _) hr.units)) (pv 3) (pa_cons pe_non pa_nil)) pe_int) rfl))))))))), ?_⟩
  have xl := paired_len hst
  have l1 := gd.sl
  have l2 := gd.c24
  have l3 := gd.pc
  -- the questions, all of them right
  refine ⟨fun σ' H' => σ' = [some (.ref x), some (.ref ca), some (.int pl.w), some (.ref sa), none, none] ∧ Same H H', ?_, ?_⟩
  · refine ⟨_, rfl, _, rfl, th_ints hca (by omega), fun H1 s1 => ⟨_, rfl, ?_⟩⟩
    rw [content_ok hca gd.c1 gd.c24 gd.cb]
    refine iteF ⟨_, rfl, _, "int", rfl, ⟨.int _, by decide, fun _ _ _ e => by cases e⟩, ?_⟩
    rw [width_ok gd.w1 gd.w24]
    refine ⟨_, rfl, iteF ?_⟩
    have so := steps_ok (s1 _ _ hsa) (steps_same s1 hst) (fun y hy => gd.st y hy)
    refine ⟨_, rfl, ca, _, rfl, .inr (s1 _ _ hca), _, rfl, _, rfl, _, _, .ref sa, rfl, th_steps (s1 _ _ hsa) (by omega) (steps_same s1 hst) (fun y hy => gd.st y hy) (by omega), fun z => ?_, fun _ H2 s2 => ?_⟩
    · rw [ivs_len, so] at z
      cases z
    · exact ⟨pl.w, sa, xs, pl.sts, rfl, s2 _ _ (s1 _ _ hsa), steps_same (s1.trans s2) hst, by have := gd.w1; omega, by omega, fun y hy => ok24 (gd.st y hy) gd.c24, gd.pc, fun H3 s3 => ⟨_, rfl, iteF ⟨rfl, s1.trans (s2.trans s3)⟩⟩⟩
  rintro _ H2 ⟨rfl, S2⟩
  -- the epochs of the steps
  refine ⟨_, rfl, sa, xs, pl.sts, rfl, S2 _ _ hsa, steps_same S2 hst, by omega, fun el H3 s3 hel h3 => ?_⟩
  have k3 : Ko x H H3 := fun a o _ e => (S2.trans s3) _ _ e
  have x3 : H3 x = some (.ins C dx []) := (S2.trans s3) _ _ hx
  have nca : ca ≠ x := ne_of hca hx (by intro q; cases q)
  have nsa : sa ≠ x := ne_of hsa hx (by intro q; cases q)
  have nel : el ≠ x := ne_of h3 x3 (by intro q; cases q)
  -- base, width, steps
  refine ⟨_, rfl, _, rfl, x, C, dx, _, rfl, x3, TC.cl, TC.nB, by show 0 < 1000; decide, ?_⟩
  refine ⟨_, rfl, _, rfl, x, C, dx, _, rfl, upd_same, TC.cl, TC.nW, Nat.lt_of_le_of_lt (len_put (Nat.le_refl _)) (by decide), ?_⟩
  have k5 := (k3.upd (o := .ins C dx (putF "_base" (.ref ca) []))).upd (o := .ins C dx (putF "_width" (.int pl.w) (putF "_base" (.ref ca) [])))
  have e5 : (L2.upd (L2.upd H3 x (.ins C dx (putF "_base" (.ref ca) []))) x (.ins C dx (putF "_width" (.int pl.w) (putF "_base" (.ref ca) [])))) el = some (.lst (ivs (eps 0 pl.sts))) := by rw [upd_ne nel, upd_ne nel]; exact h3
  generalize hH5 : L2.upd (L2.upd H3 x (.ins C dx (putF "_base" (.ref ca) []))) x (.ins C dx (putF "_width" (.int pl.w) (putF "_base" (.ref ca) []))) = H5 at k5 e5
  have x5 : H5 x = some (.ins C dx (putF "_width" (.int pl.w) (putF "_base" (.ref ca) []))) := by rw [← hH5]; exact upd_same
  have f5 : ∀ a, H5 a = none → H a = none := fun a e => by
    cases z : H a with
    | none => rfl
    | some o =>
      by_cases n : a = x
      · rw [n, x5] at e
        cases e
      · rw [k5 a o n z] at e
        cases e
  refine ⟨_, rfl, sa, xs, rfl, .inl (k5 _ _ nsa hsa), fun sl H6 hsl s6 h6 => ?_⟩
  have x6 := s6 _ _ x5
  have nsl : sl ≠ x := ne_of h6 x6 (by intro q; cases q)
  refine ⟨_, rfl, x, C, dx, _, rfl, x6, TC.cl, TC.nS, Nat.lt_of_le_of_lt (len_put (len_put (Nat.le_refl _))) (by decide), ?_⟩
  have k7 := (k5.same s6).upd (o := .ins C dx (putF "_steps" (.ref sl) (putF "_width" (.int pl.w) (putF "_base" (.ref ca) []))))
  -- the pieces
  refine ⟨_, rfl, _, rfl, pl.w, sa, xs, pl.sts, rfl, k7 _ _ nsa hsa, steps_ko k7 hx hst, by have := gd.w1; omega, by omega, fun y hy => ok24 (gd.st y hy) gd.c24, fun ql H8 ys s8 hql h8 pv => ?_⟩
  have ylen := paired_len pv
  have x8 := s8 _ _ (upd_same (H := H6) (a := x) (o := .ins C dx (putF "_steps" (.ref sl) (putF "_width" (.int pl.w) (putF "_base" (.ref ca) [])))))
  have k8 := k7.same s8
  have nql : ql ≠ x := ne_of h8 x8 (by intro q; cases q)
  refine ⟨_, rfl, x, C, dx, _, rfl, x8, TC.cl, TC.nP, Nat.lt_of_le_of_lt (len_put (len_put (len_put (Nat.le_refl _)))) (by decide), ?_⟩
  have sl8 : H8 sl = some (.lst xs) := s8 _ _ (by rw [upd_ne nsl]; exact h6)
  have el8 : H8 el = some (.lst (ivs (eps 0 pl.sts))) := s8 _ _ (by rw [upd_ne nel]; exact s6 _ _ e5)
  -- their epochs
  have k9 := k8.upd (o := .ins C dx (putF "_pieces" (.ref ql) (putF "_steps" (.ref sl) (putF "_width" (.int pl.w) (putF "_base" (.ref ca) [])))))
  have q9 : (L2.upd H8 x (.ins C dx (putF "_pieces" (.ref ql) (putF "_steps" (.ref sl) (putF "_width" (.int pl.w) (putF "_base" (.ref ca) [])))))) ql = some (.lst ys) := by rw [upd_ne nql]; exact h8
  have el9 : (L2.upd H8 x (.ins C dx (putF "_pieces" (.ref ql) (putF "_steps" (.ref sl) (putF "_width" (.int pl.w) (putF "_base" (.ref ca) [])))))) el = some (.lst (ivs (eps 0 pl.sts))) := by rw [upd_ne nel]; exact el8
  have sl9 : (L2.upd H8 x (.ins C dx (putF "_pieces" (.ref ql) (putF "_steps" (.ref sl) (putF "_width" (.int pl.w) (putF "_base" (.ref ca) [])))))) sl = some (.lst xs) := by rw [upd_ne nsl]; exact sl8
  have p9 : Paired (PieceA (L2.upd H8 x (.ins C dx (putF "_pieces" (.ref ql) (putF "_steps" (.ref sl) (putF "_width" (.int pl.w) (putF "_base" (.ref ca) []))))))) ys (allP pl.w 0 pl.sts) := L2.Paired.mapP pv fun v p z => by
    obtain ⟨t, b, e, ht, hb⟩ := z
    exact ⟨t, b, e, by rw [upd_ne (ne_of ht x8 (by intro q; cases q))]; exact ht, by rw [upd_ne (ne_of hb x8 (by intro q; cases q))]; exact hb⟩
  have x9 : (L2.upd H8 x (.ins C dx (putF "_pieces" (.ref ql) (putF "_steps" (.ref sl) (putF "_width" (.int pl.w) (putF "_base" (.ref ca) [])))))) x = _ := upd_same
  generalize L2.upd H8 x (.ins C dx (putF "_pieces" (.ref ql) (putF "_steps" (.ref sl) (putF "_width" (.int pl.w) (putF "_base" (.ref ca) []))))) = H9 at k9 q9 el9 sl9 p9 x9
  refine ⟨_, rfl, x, C, dx, _, _, rfl, x9, TC.cl, TC.nP, put_at, ql, rfl, ⟨ys, SqL.of q9⟩, fun D hD => lc_list (K := K) (a := ql) (xs := ys) (fun i H' => Same H9 H' ∧ H' D = some (.lst (ivs ((pieceE pl.sts (allP pl.w 0 pl.sts)).take i)))) ?_ ?_ ?_ ?_⟩
  · exact ⟨same_new hD, upd_same⟩
  · rintro i H' _ ⟨s10, _⟩
    exact SqL.of (s10 _ _ q9)
  · rintro i y H' hy ⟨s10, h10⟩
    have il : i < ys.length := (List.getElem?_eq_some_iff.mp hy).1
    obtain ⟨p, hp1, t, b, rfl, ht, hb⟩ := paired_get p9 hy
    obtain ⟨j, hj1, _, hj2⟩ := allP_in (List.mem_of_getElem? hp1)
    have jl : j < (eps 0 pl.sts).length := by rw [eps_len]; omega
    have ge : (pieceE pl.sts (allP pl.w 0 pl.sts))[i]? = some (eps 0 pl.sts)[j] := by
      unfold pieceE
      rw [List.getElem?_map, hp1]
      show some (((eps 0 pl.sts)[p.1.toNat]?).getD 0) = _
      rw [hj1, Int.toNat_natCast, List.getElem?_eq_getElem jl]
      rfl
    have ht' := s10 _ _ ht
    rw [hj1] at ht'
    refine ⟨rfl, _, rfl, _, rfl, t, _, _, _, rfl, rfl, .inr ht', rfl, el, _, _, _, rfl, rfl, .inl (s10 _ _ el9), atI_nat (ivs_get jl), _, h10, szl (by rw [ivs_len, List.length_take]; omega), same_mut s10 hD, ?_⟩
    rw [upd_same, List.take_add_one, ge]
    unfold ivs
    rw [List.map_append]
    rfl
  · rintro H10 ⟨s10, h10⟩
    have pl' : (pieceE pl.sts (allP pl.w 0 pl.sts)).length = ys.length := by
      unfold pieceE
      rw [List.length_map, ylen]
    rw [← pl', List.take_length] at h10
    have x10 := s10 _ _ x9
    have nD : D ≠ x := ne_of h10 x10 (by intro q; cases q)
    refine ⟨_, rfl, x, C, dx, _, rfl, x10, TC.cl, TC.nE, Nat.lt_of_le_of_lt (len_put (len_put (len_put (len_put (Nat.le_refl _))))) (by decide), ?_⟩
    have k11 := (k9.same s10).upd (o := .ins C dx (putF "_piece_epochs" (.ref D) (putF "_pieces" (.ref ql) (putF "_steps" (.ref sl) (putF "_width" (.int pl.w) (putF "_base" (.ref ca) []))))))
    refine ⟨_, rfl, .inl ⟨rfl, _, SqL.of (k11 _ _ nsa hsa)⟩, sa, xs, _, rfl, rfl, SqL.of (k11 _ _ nsa hsa), dp_steps (steps_ko k11 hx hst), (lay_steps _).1, ⟨_, _, rfl, rfl, ?_⟩⟩
    refine ⟨_, rfl, x, C, dx, _, rfl, upd_same, TC.cl, TC.nN, Nat.lt_of_le_of_lt (len_put (len_put (len_put (len_put (len_put (Nat.le_refl _)))))) (by decide), ?_⟩
    rw [bars_count]
    have f8 : ∀ c, (L2.upd H6 x (.ins C dx (putF "_steps" (.ref sl) (putF "_width" (.int pl.w) (putF "_base" (.ref ca) []))))) c = none → H c = none := fun c e => by
      cases z : H c with
      | none => rfl
      | some o =>
        by_cases n : c = x
        · rw [n, upd_same] at e
          cases e
        · rw [k7 c o n z] at e
          cases e
    have f9 : ∀ c, H9 c = none → H c = none := fun c e => by
      cases z : H c with
      | none => rfl
      | some o =>
        by_cases n : c = x
        · rw [n, x9] at e
          cases e
        · rw [k9 c o n z] at e
          cases e
    refine k _ sl ql D _ ys k11.upd (f5 _ hsl) (f8 _ hql) (f9 _ hD) upd_same ?_ ?_ ?_ ?_ ?_ put_at (by rfl) ?_ ?_ ?_ ?_
    · exact put_no (put_no (put_no (put_no (put_no put_at))))
    · exact put_no (put_no (put_no (put_no put_at)))
    · exact put_no (put_no (put_no put_at))
    · exact put_no (put_no put_at)
    · exact put_no put_at
    · rw [upd_ne nsl, upd_ne nsl]
      exact s10 _ _ sl9
    · rw [upd_ne nql, upd_ne nql]
      exact s10 _ _ q9
    · refine L2.Paired.mapP p9 fun v p z => ?_
      obtain ⟨t, b, e, ht, hb⟩ := z
      have ht' := s10 _ _ ht
      have hb' := s10 _ _ hb
      exact ⟨t, b, e, by rw [upd_ne (ne_of ht' x10 (by intro q; cases q)), upd_ne (ne_of ht' x10 (by intro q; cases q))]; exact ht', by rw [upd_ne (ne_of hb' x10 (by intro q; cases q)), upd_ne (ne_of hb' x10 (by intro q; cases q))]; exact hb'⟩
    · rw [upd_ne nD, upd_ne nD]
      exact h10
end
end Af

set_option Elab.async false
set_option linter.all false
set_option maxRecDepth 100000
namespace Af
open PySem L2
abbrev s_Plan_base : Stmt := inClass (top 23) 1
abbrev N_Plan_base : List Str := ["self"]
theorem sc_Plan_base : FnScope N_Plan_base ["self"] (defScope s_Plan_base) := ⟨rfl, rfl, rfl, by decide +kernel, rfl, by decide +kernel, by decide +kernel⟩

abbrev s_Plan_width : Stmt := inClass (top 23) 2
abbrev N_Plan_width : List Str := ["self"]
theorem sc_Plan_width : FnScope N_Plan_width ["self"] (defScope s_Plan_width) := ⟨rfl, rfl, rfl, by decide +kernel, rfl, by decide +kernel, by decide +kernel⟩

abbrev s_Plan_steps : Stmt := inClass (top 23) 3
abbrev N_Plan_steps : List Str := ["self"]
theorem sc_Plan_steps : FnScope N_Plan_steps ["self"] (defScope s_Plan_steps) := ⟨rfl, rfl, rfl, by decide +kernel, rfl, by decide +kernel, by decide +kernel⟩

abbrev s_Plan_pieces : Stmt := inClass (top 23) 4
abbrev N_Plan_pieces : List Str := ["self"]
theorem sc_Plan_pieces : FnScope N_Plan_pieces ["self"] (defScope s_Plan_pieces) := ⟨rfl, rfl, rfl, by decide +kernel, rfl, by decide +kernel, by decide +kernel⟩

abbrev s_Plan_epochs : Stmt := inClass (top 23) 5
abbrev N_Plan_epochs : List Str := ["self"]
theorem sc_Plan_epochs : FnScope N_Plan_epochs ["self"] (defScope s_Plan_epochs) := ⟨rfl, rfl, rfl, by decide +kernel, rfl, by decide +kernel, by decide +kernel⟩

/-- a plan that was made: its six fields and its lists -/
structure PlanX (C x ca sl ql el : Addr) (H : Hp) (pl : Pl) (xs ys : List V) : Prop where
  ins : ∃ dx fs, H x = some (.ins C dx fs) ∧ fs.lookup ("_base" : Str) = some (.ref ca) ∧ fs.lookup ("_width" : Str) = some (.int pl.w) ∧ fs.lookup ("_steps" : Str) = some (.ref sl) ∧
    fs.lookup ("_pieces" : Str) = some (.ref ql) ∧ fs.lookup ("_piece_epochs" : Str) = some (.ref el) ∧ fs.lookup ("_epochs" : Str) = some (.int ((bars pl.sts : Nat) + 1)) ∧ fs.lookup ("epoch_of" : Str) = none
  steps : H sl = some (.lst xs)
  pieces : H ql = some (.lst ys)
  eps : H el = some (.lst (ivs (pieceE pl.sts (allP pl.w 0 pl.sts))))
def sp_p_base (C : Addr) : Sp := fun vs H Q _ => ∃ (x ca sl ql el : Addr) (pl : Pl) (xs ys : List V), vs = [.ref x] ∧ PlanX C x ca sl ql el H pl xs ys ∧ Q (.ref ca) H
def sp_p_width (C : Addr) : Sp := fun vs H Q _ => ∃ (x ca sl ql el : Addr) (pl : Pl) (xs ys : List V), vs = [.ref x] ∧ PlanX C x ca sl ql el H pl xs ys ∧ Q (.int pl.w) H
def sp_p_steps (C : Addr) : Sp := fun vs H Q _ => ∃ (x ca sl ql el : Addr) (pl : Pl) (xs ys : List V), vs = [.ref x] ∧ PlanX C x ca sl ql el H pl xs ys ∧ ∀ l H', Same H H' → H l = none → H' l = some (.lst xs) → Q (.ref l) H'
def sp_p_pieces (C : Addr) : Sp := fun vs H Q _ => ∃ (x ca sl ql el : Addr) (pl : Pl) (xs ys : List V), vs = [.ref x] ∧ PlanX C x ca sl ql el H pl xs ys ∧ ∀ l H', Same H H' → H l = none → H' l = some (.lst ys) → Q (.ref l) H'
def sp_p_epochs (C : Addr) : Sp := fun vs H Q _ => ∃ (x ca sl ql el : Addr) (pl : Pl) (xs ys : List V), vs = [.ref x] ∧ PlanX C x ca sl ql el H pl xs ys ∧ Q (.int ((bars pl.sts : Nat) + 1)) H
section
variable {P : Program} {w : World} {K : PySem.W.Frag} {mg : Str → Option Value} {base : Heap}
theorem ok_p_base {f C : Addr} {fd : FuncData} (F : Fun K "base" "Plan.base" s_Plan_base f fd) (TC : PlanC K mg C) : FnOk P w K mg base CX0 1 f fd ["self"] (sp_p_base C) := by
  refine F.ok sc_Plan_base (fun vs H Q E h => ?_) (fun cdv A outer s H vs Q E hr h => ?_)
  · obtain ⟨_, _, _, _, _, _, _, _, rfl, _⟩ := h
    rfl
  obtain ⟨x, ca, sl, ql, el, pl, xs, ys, rfl, ⟨⟨dx, fs, hx, hB, hW, hS, hP, hE, hN, hM⟩, h1, h2, h3⟩, k⟩ := h
  refine ⟨_, (pss_one (ps_ret (pe_fld (pv 0) rfl))), ?_⟩
  exact ⟨_, rfl, x, C, dx, fs, _, rfl, hx, TC.cl, TC.nB, hB, k⟩
theorem ok_p_width {f C : Addr} {fd : FuncData} (F : Fun K "width" "Plan.width" s_Plan_width f fd) (TC : PlanC K mg C) : FnOk P w K mg base CX0 1 f fd ["self"] (sp_p_width C) := by
  refine F.ok sc_Plan_width (fun vs H Q E h => ?_) (fun cdv A outer s H vs Q E hr h => ?_)
  · obtain ⟨_, _, _, _, _, _, _, _, rfl, _⟩ := h
    rfl
  obtain ⟨x, ca, sl, ql, el, pl, xs, ys, rfl, ⟨⟨dx, fs, hx, hB, hW, hS, hP, hE, hN, hM⟩, h1, h2, h3⟩, k⟩ := h
  refine ⟨_, (pss_one (ps_ret (pe_fld (pv 0) rfl))), ?_⟩
  exact ⟨_, rfl, x, C, dx, fs, _, rfl, hx, TC.cl, TC.nW, hW, k⟩
theorem ok_p_steps {f C : Addr} {fd : FuncData} (F : Fun K "steps" "Plan.steps" s_Plan_steps f fd) (T : Txt mg) (TC : PlanC K mg C) : FnOk P w K mg base CX0 1 f fd ["self"] (sp_p_steps C) := by
  refine F.ok sc_Plan_steps (fun vs H Q E h => ?_) (fun cdv A outer s H vs Q E hr h => ?_)
  · obtain ⟨_, _, _, _, _, _, _, _, rfl, _⟩ := h
    rfl
  obtain ⟨x, ca, sl, ql, el, pl, xs, ys, rfl, ⟨⟨dx, fs, hx, hB, hW, hS, hP, hE, hN, hM⟩, h1, h2, h3⟩, k⟩ := h
  refine ⟨_, (pss_one (ps_ret (pe_callTy call_list' (by rfl) T.list (by decide +kernel) (pa_cons (pe_fld (pv 0) rfl) pa_nil)))), ?_⟩
  refine ⟨_, rfl, x, C, dx, fs, _, rfl, hx, TC.cl, TC.nS, hS, ?_⟩
  exact ⟨sl, _, rfl, .inl h1, fun c H2 hc s3 h3 => k c H2 s3 hc h3⟩
theorem ok_p_pieces {f C : Addr} {fd : FuncData} (F : Fun K "pieces" "Plan.pieces" s_Plan_pieces f fd) (T : Txt mg) (TC : PlanC K mg C) : FnOk P w K mg base CX0 1 f fd ["self"] (sp_p_pieces C) := by
  refine F.ok sc_Plan_pieces (fun vs H Q E h => ?_) (fun cdv A outer s H vs Q E hr h => ?_)
  · obtain ⟨_, _, _, _, _, _, _, _, rfl, _⟩ := h
    rfl
  obtain ⟨x, ca, sl, ql, el, pl, xs, ys, rfl, ⟨⟨dx, fs, hx, hB, hW, hS, hP, hE, hN, hM⟩, h1, h2, h3⟩, k⟩ := h
  refine ⟨_, (pss_one (ps_ret (pe_callTy call_list' (by rfl) T.list (by decide +kernel) (pa_cons (pe_fld (pv 0) rfl) pa_nil)))), ?_⟩
  refine ⟨_, rfl, x, C, dx, fs, _, rfl, hx, TC.cl, TC.nP, hP, ?_⟩
  exact ⟨ql, _, rfl, .inl h2, fun c H2 hc s3 h3 => k c H2 s3 hc h3⟩
theorem ok_p_epochs {f C : Addr} {fd : FuncData} (F : Fun K "epochs" "Plan.epochs" s_Plan_epochs f fd) (TC : PlanC K mg C) : FnOk P w K mg base CX0 1 f fd ["self"] (sp_p_epochs C) := by
  refine F.ok sc_Plan_epochs (fun vs H Q E h => ?_) (fun cdv A outer s H vs Q E hr h => ?_)
  · obtain ⟨_, _, _, _, _, _, _, _, rfl, _⟩ := h
    rfl
  obtain ⟨x, ca, sl, ql, el, pl, xs, ys, rfl, ⟨⟨dx, fs, hx, hB, hW, hS, hP, hE, hN, hM⟩, h1, h2, h3⟩, k⟩ := h
  refine ⟨_, (pss_one (ps_ret (pe_fld (pv 0) rfl))), ?_⟩
  exact ⟨_, rfl, x, C, dx, fs, _, rfl, hx, TC.cl, TC.nN, hN, k⟩
end
end Af

set_option Elab.async false
set_option linter.all false
set_option maxRecDepth 100000
namespace Af
open PySem PySem.Spec PySem.Calls PyProof.Rows PySem.SeqAt L2
open AutoSeq1 (wpAny_loadPart')
/-! a tuple times 0, 1, or more -/
theorem mul_one (l : Addr) (items : Array Value) (n : Nat) (dd : Option Addr) (sl : Array (Option Value)) (u : Tok) :
    Meets (Builtin.«tuple.__mul__» ⟨[.ref l, .int 1 u], []⟩) (fun _ R s => s.heap.get? l = some { cls := .type "tuple", dict := dd, data := .seq items n, slots := sl } ∧ R (.ok (.ret (Value.ref l))) s) :=
  .of_wp fun prog w A R s h => by
    obtain ⟨hp, g, d, tk, os⟩ := s
    obtain ⟨hl, h⟩ := h
    have f1 := AutoSeq1.idx_int
    wp_walk using wpAny_loadPart' hl
    exact ⟨_, rfl, h⟩
theorem mul_zero (l : Addr) (items : Array Value) (n : Nat) (dd : Option Addr) (sl : Array (Option Value)) (u : Tok) (hi : items.isEmpty = false) :
    Meets (Builtin.«tuple.__mul__» ⟨[.ref l, .int 0 u], []⟩) (fun _ R s => s.heap.get? l = some { cls := .type "tuple", dict := dd, data := .seq items n, slots := sl } ∧
      R (.ok (.ret (Value.ref s.heap.objs.size))) { s with heap := s.heap.push { cls := Value.type "tuple", data := Data.seq #[] }, toks := s.toks }) :=
  .of_wp fun prog w A R s h => by
    obtain ⟨hp, g, d, tk, os⟩ := s
    obtain ⟨hl, h⟩ := h
    have f1 := AutoSeq1.idx_int
    wp_walk using wpAny_loadPart' hl
    exact ⟨_, rfl, h⟩
def rRepT' : R2 := fun x y H Q => ∃ l k xs, x = .ref l ∧ y = .int k ∧ H l = some (.tup xs) ∧ xs ≠ [] ∧ 0 ≤ k ∧ k ≤ 1000 ∧ xs.length ≤ 1000 ∧ NewT (List.replicate k.toNat xs).flatten H Q
theorem op_repT' {X : Cx} : OpR X (binaryOp .Mult) rRepT' := by
  intro pins s σ H x y v u Q I rx ry h
  obtain ⟨l, k, xs, rfl, rfl, hT, ne, h1, h2, hz, q⟩ := h
  by_cases two : 2 ≤ k
  · exact op_repT pins s σ H _ _ v u Q I rx ry ⟨l, k, xs, rfl, rfl, SqT.of hT, ne, two, h2, hz, fun p hp => q p _ (same_new hp) upd_same⟩
  cases (show v = Value.ref l from rx)
  obtain ⟨t, rfl⟩ := (show ∃ t, u = Value.int k t from ry)
  obtain ⟨its, r, ⟨⟨cls, dd, data, sl⟩, ho, hc, n, hd⟩, hs⟩ := I.tuple (SqT.of hT)
  simp only at hc hd
  subst hc hd
  have many : its.length = xs.length := r.length.symm
  have some_ : its.toArray.isEmpty = false := by
    cases its with
    | nil => exact absurd (List.eq_nil_of_length_eq_zero many.symm) ne
    | cons a b => rfl
  have go : ∀ {R : Value → Shared → Prop} {E : Value → Shared → Prop}, wpAny (model X.prog X.w) X.A.in1 (call (.builtin "tuple.__mul__") [.ref l, .int k t]) R E s → True := fun _ => trivial
  rcases (show k = 0 ∨ k = 1 by omega) with rfl | rfl
  · refine wpAny_binaryOp_repeat_ref (T := "tuple") (U := "int") (by decide) ⟨_, ho, rfl⟩ (fun s' => typeIs_int s' 0 t) noFill_tuple_mul F.fills_int_mul F.slot_int_rmul repeat_tuple F.slot_int_index.lookup
      (call_meets F.slot_int_rmul (typeIs_int s 0 t) F.entry_int_rmul (F.args_int_rmul_2 _ _) (int_rmul_tuple 0 t l its.toArray n dd sl) ⟨ho, rfl, ⟨_, ho, rfl⟩, call_meets F.slot_tuple_mul ⟨_, ho, rfl⟩ F.entry_tuple_mul (F.args_tuple_mul_2 _ _) (mul_zero l its.toArray n dd sl t some_) ⟨ho, ?_⟩⟩)
    exact ⟨.ref s.heap.objs.size, _, I.laid (t' := s.toks) (o := .tup []) (fun b ob y => Heap.get?_push_of_some _ y) (Nat.le_refl _) ⟨Nat.zero_le _, [], .nil, PyProof.Rows.IsTup.new _ _⟩, rfl, q _ _ (same_new (I.hok.fresh (Nat.le_refl _))) upd_same⟩
  · refine wpAny_binaryOp_repeat_ref (T := "tuple") (U := "int") (by decide) ⟨_, ho, rfl⟩ (fun s' => typeIs_int s' 1 t) noFill_tuple_mul F.fills_int_mul F.slot_int_rmul repeat_tuple F.slot_int_index.lookup
      (call_meets F.slot_int_rmul (typeIs_int s 1 t) F.entry_int_rmul (F.args_int_rmul_2 _ _) (int_rmul_tuple 1 t l its.toArray n dd sl) ⟨ho, rfl, ⟨_, ho, rfl⟩, call_meets F.slot_tuple_mul ⟨_, ho, rfl⟩ F.entry_tuple_mul (F.args_tuple_mul_2 _ _) (mul_one l its.toArray n dd sl t) ⟨ho, ?_⟩⟩)
    refine ⟨.ref l, H, I, rfl, q l H (Same.refl H) ?_⟩
    rw [hT]
    show some (HO.tup xs) = some (HO.tup (List.replicate 1 xs).flatten)
    simp
end Af

set_option Elab.async false
set_option linter.all false
set_option maxRecDepth 100000
namespace Af
open PySem PySem.Spec PyProof.Rows L2
/-! data whose text is not long -/
/-- its text has at most b signs, it can be shown, it nests at most n deep -/
structure Bd (b n : Nat) (d : PyData) : Prop where
  tx : d.shown.length ≤ b
  sh : d.showable = true
  dp : d.depth ≤ n
theorem Bd.mono {b n b' n' : Nat} {d : PyData} (h : Bd b n d) (h1 : b ≤ b') (h2 : n ≤ n') : Bd b' n' d := ⟨Nat.le_trans h.tx h1, h.sh, Nat.le_trans h.dp h2⟩
theorem Bd.flat {d : PyData} (h : flatD d = true) : Bd 45 1 d := by
  obtain ⟨h1, h2, h3⟩ := flat_len h
  exact ⟨h1, h2, h3⟩
theorem Bd.lst {b n k : Nat} {ds : List PyData} (h : ∀ d ∈ ds, Bd b n d) (hl : ds.length ≤ k) : Bd (k * (b + 2) + 3) (n + 1) (.list ds) := by
  obtain ⟨t, _⟩ := texts_le fun d hd => (h d hd).tx
  have e : ds.length * (b + 2) ≤ k * (b + 2) := Nat.mul_le_mul_right _ hl
  have e2 : ds.length * (b + 2) = b * ds.length + 2 * ds.length := by rw [Nat.mul_add, Nat.mul_comm ds.length b, Nat.mul_comm ds.length 2]
  refine ⟨?_, ?_, ?_⟩
  · simp only [PyData.shown]
    omega
  · simp only [PyData.showable]
    exact showAll_of fun d hd => (h d hd).sh
  · simp only [PyData.depth]
    have := depthAll_of fun d hd => (h d hd).dp
    omega
theorem Bd.tup {b n k : Nat} {ds : List PyData} (h : ∀ d ∈ ds, Bd b n d) (hl : ds.length ≤ k) : Bd (k * (b + 2) + 3) (n + 1) (.tuple ds) := by
  obtain ⟨_, t⟩ := texts_le fun d hd => (h d hd).tx
  have e : ds.length * (b + 2) ≤ k * (b + 2) := Nat.mul_le_mul_right _ hl
  have e2 : ds.length * (b + 2) = b * ds.length + 2 * ds.length := by rw [Nat.mul_add, Nat.mul_comm ds.length b, Nat.mul_comm ds.length 2]
  refine ⟨?_, ?_, ?_⟩
  · simp only [PyData.shown]
    omega
  · simp only [PyData.showable]
    exact showAll_of fun d hd => (h d hd).sh
  · simp only [PyData.depth]
    have := depthAll_of fun d hd => (h d hd).dp
    omega
theorem mem_shown {ds : List PyData} {d : PyData} (h : d ∈ ds) : d.shown ∈ PyData.shownAll ds := by
  induction ds with
  | nil => simp at h
  | cons a r ih =>
    simp only [PyData.shownAll]
    rcases List.mem_cons.mp h with rfl | h
    · exact List.mem_cons_self
    · exact List.mem_cons_of_mem _ (ih h)
theorem piled_ge : ∀ ts : List Str, 2 * ts.length ≤ piled ts
  | [] => Nat.zero_le _
  | t :: ts => by
    have := piled_ge ts
    simp only [piled, List.map_cons, List.sum_cons, List.length_cons] at *
    omega
theorem th_text {K : PySem.W.Frag} {H : Hp} : ∀ {n : Nat} {x : V} {d : PyData}, Dq K H x d → d.shown.length ≤ 200000 → Th K H n x
  | 0, _, _, h, _ => dq_ty h
  | n + 1, x, d, h, sz => by
    refine ⟨dq_ty h, fun a xs e z => ?_⟩
    subst e
    have key : ∀ ds, DqAll K H xs ds → (∀ y ∈ ds, y.shown.length ≤ 200000) → 2 * ds.length ≤ 200000 → xs.length ≤ 100000 ∧ ∀ y ∈ xs, Th K H n y := fun ds t q l => by
      refine ⟨by rw [t.len]; omega, fun y hy => ?_⟩
      obtain ⟨d', m1, m2⟩ := t.mem hy
      exact th_text m2 (q d' m1)
    cases h with
    | @lst _ ys ds e t =>
      have p := piled_le_listText (PyData.shownAll ds)
      have g := piled_ge (PyData.shownAll ds)
      rw [shownAll_len] at g
      simp only [PyData.shown] at sz
      rcases z with z | z
      · rw [e] at z; cases z
      · rw [e] at z; cases z; exact key ds t (fun y hy => Nat.le_trans (listText_mem_le (mem_shown hy)) sz) (by omega)
    | @tup _ ys ds e t =>
      have p := piled_le_tupleText (PyData.shownAll ds)
      have g := piled_ge (PyData.shownAll ds)
      rw [shownAll_len] at g
      simp only [PyData.shown] at sz
      rcases z with z | z
      · rw [e] at z; cases z; exact key ds t (fun y hy => Nat.le_trans (tupleText_mem_le (mem_shown hy)) sz) (by omega)
      · rw [e] at z; cases z
    | dic e => rcases z with z | z <;> (rw [e] at z; cases z)
def few : PyData → Prop
  | .list l => l.length ≤ 100
  | _ => True
end Af

set_option Elab.async false
set_option linter.all false
set_option maxRecDepth 100000
namespace Af
open PySem PySem.Spec PyProof.Rows L2
/-! a heap without the lists that are changed -/
def hd (p : Addr) (H : Hp) : Hp := fun a => if a = p then none else H a
theorem hd_ne {p a : Addr} {H : Hp} (h : a ≠ p) : hd p H a = H a := if_neg h
theorem hd_in {p : Addr} {H : Hp} : Same (hd p H) H := fun a o e => by
  by_cases h : a = p
  · rw [h] at e
    rw [show hd p H p = none from if_pos rfl] at e
    cases e
  · rw [hd_ne h] at e
    exact e
theorem hd_same {p : Addr} {H H' : Hp} (s : Same H H') : Same (hd p H) (hd p H') := fun a o e => by
  by_cases h : a = p
  · rw [h] at e
    rw [show hd p H p = none from if_pos rfl] at e
    cases e
  · rw [hd_ne h] at e ⊢
    exact s a o e
theorem hd_kp {p : Addr} {H H' : Hp} (k : Kp p H H') : Same (hd p H) (hd p H') := fun a o e => by
  by_cases h : a = p
  · rw [h] at e
    rw [show hd p H p = none from if_pos rfl] at e
    cases e
  · rw [hd_ne h] at e ⊢
    exact k a o (.inl h) e
theorem hd_upd {p : Addr} {H : Hp} {o : HO} : hd p (upd H p o) = hd p H := funext fun a => by
  by_cases h : a = p
  · rw [h]
    exact (if_pos rfl).trans (if_pos rfl).symm
  · rw [hd_ne h, hd_ne h, upd_ne h]
theorem hd_comm {p l : Addr} {H : Hp} : hd l (hd p H) = hd p (hd l H) := funext fun a => by
  by_cases h : a = p
  · by_cases g : a = l
    · rw [show hd l (hd p H) a = none from if_pos g, show hd p (hd l H) a = none from if_pos h]
    · rw [hd_ne g, show hd p H a = none from if_pos h, show hd p (hd l H) a = none from if_pos h]
  · by_cases g : a = l
    · rw [show hd l (hd p H) a = none from if_pos g, hd_ne h, show hd l H a = none from if_pos g]
    · rw [hd_ne g, hd_ne h, hd_ne h, hd_ne g]
theorem kp_hd {p : Addr} {H : Hp} {ys : List V} (e : H p = some (.lst ys)) : Kp p H (hd p H) := fun a o n k => by
  by_cases h : a = p
  · rcases n with n | n
    · exact absurd h n
    · rw [h, e] at k
      exact absurd (Option.some.inj k).symm (n ys)
  · rw [hd_ne h]
    exact k
/-- what is new is hidden: all else stands -/
theorem same_hd {p : Addr} {H H' : Hp} (n : H p = none) (s : Same H H') : Same H (hd p H') := fun a o e => by
  rw [hd_ne (fun h => by rw [h, n] at e; cases e)]
  exact s a o e
/-- the heap G with both hidden -/
abbrev hd2 (p l : Addr) (H : Hp) : Hp := hd l (hd p H)
theorem hd2_at {p l a : Addr} {H : Hp} {o : HO} (e : H a = some o) (h1 : a ≠ p) (h2 : a ≠ l) : hd2 p l H a = some o := by
  show hd l (hd p H) a = some o
  rw [hd_ne h2, hd_ne h1]
  exact e
theorem hd2_same {p l : Addr} {H H' : Hp} (s : Same H H') : Same (hd2 p l H) (hd2 p l H') := hd_same (hd_same s)
theorem hd2_kp {p l : Addr} {H H' : Hp} (k : Kp p H H') : Same (hd2 p l H) (hd2 p l H') := hd_same (hd_kp k)
theorem hd2_upd {p l : Addr} {H : Hp} {o : HO} : hd2 p l (upd H l o) = hd2 p l H := by
  show hd l (hd p (upd H l o)) = hd l (hd p H)
  rw [hd_comm, hd_upd, hd_comm]
theorem hd2_in {p l : Addr} {H : Hp} : Same (hd2 p l H) H := fun a o e => hd_in a o (hd_in a o e)
section
variable {K : PySem.W.Frag}
theorem dq_stepV {H : Hp} {x : V} {st : Stp} (h : StepV H x st) : Dq K H x (stepD st) := by
  cases st with
  | none =>
    have e : x = V.non := h
    subst e
    exact .non
  | some fw =>
    obtain ⟨f, ws⟩ := fw
    obtain ⟨a, b, rfl, h1, h2⟩ := h
    refine .tup h1 (.cons (.int f) (.cons (.tup h2 ?_) .nil))
    clear h2
    induction ws with
    | nil => exact .nil
    | cons n ns ih => exact .cons (.int n) ih
theorem dq_ints {H : Hp} : ∀ ns : List Int, DqAll K H (ivs ns) (dvs ns)
  | [] => .nil
  | n :: ns => .cons (.int n) (dq_ints ns)
theorem dq_stepsV {H : Hp} : ∀ {xs : List V} {sts : List Stp}, Paired (StepV H) xs sts → DqAll K H xs (stepsD sts)
  | _, _, .nil => .nil
  | _, _, .cons h t => .cons (dq_stepV h) (dq_stepsV t)
theorem DqAll.app {H : Hp} : ∀ {xs ys : List V} {ds es : List PyData}, DqAll K H xs ds → DqAll K H ys es → DqAll K H (xs ++ ys) (ds ++ es)
  | _, _, _, _, .nil, h => h
  | _, _, _, _, .cons r t, h => .cons r (t.app h)
theorem DqAll.take {H : Hp} : ∀ {xs : List V} {ds : List PyData} (n : Nat), DqAll K H xs ds → DqAll K H (xs.take n) (ds.take n)
  | _, _, 0, _ => by
    rw [List.take_zero, List.take_zero]
    exact .nil
  | _, _, n + 1, .nil => .nil
  | _, _, n + 1, .cons r t => .cons r (t.take n)
theorem DqAll.drop {H : Hp} : ∀ {xs : List V} {ds : List PyData} (n : Nat), DqAll K H xs ds → DqAll K H (xs.drop n) (ds.drop n)
  | _, _, 0, h => h
  | _, _, n + 1, .nil => .nil
  | _, _, n + 1, .cons r t => t.drop n
theorem DqAll.rep {H : Hp} {x : V} {d : PyData} (h : Dq K H x d) : ∀ n : Nat, DqAll K H (List.replicate n [x]).flatten (List.replicate n d)
  | 0 => .nil
  | n + 1 => .cons h (DqAll.rep h n)
/-- a thing, told by data that is not long -/
def Tg (K : PySem.W.Frag) (G : Hp) (b n : Nat) (P : PyData → Prop) (x : V) : Prop := ∃ d, Dq K G x d ∧ Bd b n d ∧ P d
theorem Tg.same {G G' : Hp} {b n : Nat} {P : PyData → Prop} {x : V} (h : Tg K G b n P x) (s : Same G G') : Tg K G' b n P x := by
  obtain ⟨d, h1, h2, h3⟩ := h
  exact ⟨d, Dq.same s d x h1, h2, h3⟩
end
end Af

set_option Elab.async false
set_option linter.all false
set_option maxRecDepth 100000
namespace Af
open PySem PySem.Spec PyProof.Rows L2
theorem same_hd2 {p D : Addr} {H H' : Hp} (n : H D = none) (s : Same H H') : Same (hd p H) (hd2 p D H') := fun a o e => by
  have ap : a ≠ p := fun h => by
    rw [h, show hd p H p = none from if_pos rfl] at e
    cases e
  rw [hd_ne ap] at e
  exact hd2_at (s a o e) ap (fun h => by rw [h, n] at e; cases e)
theorem hd2_to {p l l' : Addr} {H H' : Hp} (n : H l' = none) (s : Same H H') : Same (hd2 p l H) (hd2 p l' H') := fun a o e => by
  have e1 := hd2_in a o e
  have ap : a ≠ p := fun h => by
    have e2 := hd_in a o e
    rw [h, show hd p H p = none from if_pos rfl] at e2
    cases e2
  exact hd2_at (s a o e1) ap (fun h => by rw [h, n] at e1; cases e1)
theorem len_stepsD : ∀ l : List Stp, (stepsD l).length = l.length
  | [] => rfl
  | a :: r => by
    show (stepsD r).length + 1 = r.length + 1
    rw [len_stepsD r]
theorem flat_small {z : Int} (h : 0 ≤ z ∧ z < 8) : flatD (.int z) = true := by
  have k : ∀ n : Fin 8, flatD (.int ((n.val : Nat) : Int)) = true := by decide +kernel
  obtain ⟨n, rfl⟩ := Int.eq_ofNat_of_zero_le h.1
  exact k ⟨n, by omega⟩
theorem flat_place {z : Int} (h : 0 ≤ z ∧ z ≤ 64) : flatD (.int z) = true := by
  have k : ∀ n : Fin 65, flatD (.int ((n.val : Nat) : Int)) = true := by decide +kernel
  obtain ⟨n, rfl⟩ := Int.eq_ofNat_of_zero_le h.1
  exact k ⟨n, by omega⟩
theorem dvs_mem {ns : List Int} {d : PyData} (h : d ∈ dvs ns) : ∃ z ∈ ns, d = .int z := by
  obtain ⟨z, hz, e⟩ := List.mem_map.mp h
  exact ⟨z, hz, e.symm⟩
theorem bd_cells {ns : List Int} (hl : ns.length ≤ 25) (h : ∀ z ∈ ns, 0 ≤ z ∧ z < 8) : Bd 1200 2 (.tuple (dvs ns)) := by
  refine (Bd.tup (b := 45) (n := 1) (k := 25) (fun d hd => ?_) (by rw [show (dvs ns).length = ns.length from List.length_map ..]; exact hl)).mono (by decide) (by decide)
  obtain ⟨z, hz, rfl⟩ := dvs_mem hd
  exact Bd.flat (flat_small (h z hz))
theorem bd_step {n : Nat} {st : Stp} (o : OkS n st) (hn : n ≤ 24) : Bd 2500 3 (stepD st) := by
  cases st with
  | none => exact (Bd.flat rfl).mono (by decide) (by decide)
  | some fw =>
    obtain ⟨f, ws⟩ := fw
    obtain ⟨o1, o2, o3, o4⟩ := o
    refine (Bd.tup (b := 1200) (n := 2) (k := 2) (ds := [.int f, .tuple (dvs ws)]) (fun d hd => ?_) (Nat.le_refl 2)).mono (by decide) (by decide)
    simp only [List.mem_cons, List.not_mem_nil, or_false] at hd
    rcases hd with rfl | rfl
    · exact (Bd.flat (flat_place ⟨o1, by omega⟩)).mono (by decide) (by decide)
    · exact bd_cells (by omega) o4
theorem stepsD_mem {n : Nat} : ∀ {l : List Stp} {d : PyData}, (∀ x ∈ l, OkS n x) → d ∈ stepsD l → ∃ st ∈ l, d = stepD st
  | [], d, _, h => by cases h
  | a :: r, d, o, h => by
    rcases List.mem_cons.mp h with rfl | h
    · exact ⟨a, List.mem_cons_self, rfl⟩
    · obtain ⟨st, h1, h2⟩ := stepsD_mem (fun x hx => o x (List.mem_cons_of_mem _ hx)) h
      exact ⟨st, List.mem_cons_of_mem _ h1, h2⟩
theorem bd_steps {n : Nat} {l : List Stp} (o : ∀ x ∈ l, OkS n x) (hn : n ≤ 24) : ∀ d ∈ stepsD l, Bd 4000 6 d := fun d hd => by
  obtain ⟨st, h1, rfl⟩ := stepsD_mem o hd
  exact (bd_step (o st h1) hn).mono (by decide) (by decide)
/-- a triple that is no plan's -/
def BadT (K : PySem.W.Frag) (good : PyData → PyData → PyData → Bool) (G : Hp) (u : V) : Prop := ∃ t b w s db dw ds, u = .ref t ∧ G t = some (.tup [b, w, s]) ∧ Dq K G b db ∧ Dq K G w dw ∧ Dq K G s ds ∧ Bd 190000 20 db ∧ Bd 190000 20 dw ∧ Bd 190000 20 ds ∧ few ds ∧ good db dw ds = false
theorem BadT.same {K : PySem.W.Frag} {good : PyData → PyData → PyData → Bool} {G G' : Hp} {u : V} (h : BadT K good G u) (s : Same G G') : BadT K good G' u := by
  obtain ⟨t, b, w, v, db, dw, ds, e, h1, h2, h3, h4, r⟩ := h
  exact ⟨t, b, w, v, db, dw, ds, e, s _ _ h1, Dq.same s _ _ h2, Dq.same s _ _ h3, Dq.same s _ _ h4, r⟩
/-- a triple that was just laid -/
theorem bad_mk {K : PySem.W.Frag} {good : PyData → PyData → PyData → Bool} {p l t : Addr} {H : Hp} {b w v : V} {db dw ds : PyData} {ys zs : List V} (hp : H p = some (.lst ys)) (hl : H l = some (.lst zs)) (ht : H t = some (.tup [b, w, v])) (h2 : Dq K (hd2 p l H) b db) (h3 : Dq K (hd2 p l H) w dw) (h4 : Dq K (hd2 p l H) v ds)
    (b1 : Bd 190000 20 db) (b2 : Bd 190000 20 dw) (b3 : Bd 190000 20 ds) (f : few ds) (bad : good db dw ds = false) : BadT K good (hd2 p l H) (.ref t) :=
  ⟨t, b, w, v, db, dw, ds, rfl, hd2_at ht (ne_of ht hp (by intro q; cases q)) (ne_of ht hl (by intro q; cases q)), h2, h3, h4, b1, b2, b3, f, bad⟩
end Af

set_option Elab.async false
set_option linter.all false
set_option maxRecDepth 100000
namespace Af
open PySem PySem.Spec PyProof.Rows L2
/-! repr of data of any kind -/
def rReprA (K : PySem.W.Frag) : List V → Hp → VK → Prop := fun xs H Q => ∃ (x : V) (d : PyData), xs = [x] ∧ Dq K H x d ∧ d.showable = true ∧ d.depth ≤ 60 ∧ d.shown.length ≤ sizeLine ∧ Q (.str d.shown) H
theorem call_reprA {X : Cx} (hg : X.A.guards = some []) (hu : X.A.units + 64 < cLine) : CallR X (.builtin "repr") (rReprA X.K) := by
  intro pins s σ H xs us Q I r h
  obtain ⟨x, d, rfl, hd, sh, dp, sz, q⟩ := h
  have hd0 := hd
  cases hd with
  | int i =>
    obtain ⟨u, rfl, ru⟩ := vals1 r
    obtain ⟨t, rfl⟩ := ru
    have lg : i.natAbs.log2 < 1920 := of_decide_eq_true (show decide (i.natAbs.log2 < 1920) = true from by simpa only [PyData.showable] using sh)
    refine PySem.P.repr_of_int lg ⟨.str _, H, I.tok _, ⟨_, rfl⟩, ?_⟩
    simpa only [PyData.shown] using q
  | non =>
    obtain ⟨u, rfl, ru⟩ := vals1 r
    cases (show u = Value.none from ru)
    refine PySem.P.repr_of_none ⟨.str _, H, I.tok _, ⟨_, rfl⟩, ?_⟩
    simpa only [PyData.shown] using q
  | bl b =>
    obtain ⟨u, rfl, ru⟩ := vals1 r
    cases (show u = Value.bool b from ru)
    refine PySem.P.repr_of_bool ⟨.str (PyData.bool b).shown, H, I.tok _, ⟨s.toks, ?_⟩, q⟩
    cases b <;> simp only [PyData.shown] <;> rfl
  | str z =>
    obtain ⟨u, rfl, ru⟩ := vals1 r
    obtain ⟨t, rfl⟩ := ru
    refine PySem.P.repr_of_str ⟨.str (PyData.str z).shown, H, I.tok _, ⟨s.toks, ?_⟩, q⟩ ?_
    · simp only [PyData.shown]
    simpa only [PyData.shown] using sz
  | @lst a xs ds e t =>
    have dp' : PyData.depthAll ds + 1 ≤ 60 := by simpa only [PyData.depth] using dp
    exact call_reprL hg hu pins s σ H _ us Q I r ⟨a, xs, ds, rfl, e, t, by simpa only [PyData.showable] using sh, by omega, sz, q⟩
  | @tup a xs ds e t =>
    have dp' : PyData.depthAll ds + 1 ≤ 60 := by simpa only [PyData.depth] using dp
    exact call_repr' hg hu pins s σ H _ us Q I r ⟨a, xs, ds, rfl, e, t, by simpa only [PyData.showable] using sh, by omega, sz, q⟩
  | @dic a ha =>
    obtain ⟨u, rfl, ru⟩ := vals1 r
    cases (show u = Value.ref a from ru)
    obtain ⟨_, hne, vs, rv, o, es, ep, h1, h2, h3, _, h4, _⟩ := dk_of I.hok ha
    cases rv
    have e : es.toList = [] := by
      cases q : es.toList with
      | nil => rfl
      | cons y l =>
        rw [q] at h4
        cases h4
    have rd : Reads s.heap (.ref a) (.dict []) ([a] ++ []) := Reads.dict (kvs := []) (as := []) (bs := []) h1 h2.1 h3 (by rw [e]; exact .nil) (by rw [e]; exact .nil)
    refine repr_of_reads' (h₀ := s.heap) rd sh (fun _ z => ?_) hg (by omega) (fun _ _ y => y) (fun h' u tk keep => ⟨.str (PyData.dict []).shown, H, I.kept keep, ⟨u, rfl⟩, q⟩) sz
    have z' : sysModules ∈ [a] := z
    rw [← List.mem_singleton.mp z'] at hne
    exact absurd hne (by simp)
end Af

set_option Elab.async false
set_option linter.all false
set_option maxRecDepth 100000
set_option maxHeartbeats 4000000
namespace Af
open PySem L2
abbrev s_Plan___eq : Stmt := inClass (top 23) 9
abbrev N_Plan___eq : List Str := ["self", "other"]
theorem sc_Plan___eq : FnScope N_Plan___eq ["self", "other"] (defScope s_Plan___eq) := ⟨rfl, rfl, rfl, by decide +kernel, rfl, by decide +kernel, by decide +kernel⟩

abbrev s_l_plan_of : Stmt := top 36
abbrev N_l_plan_of : List Str := ["_law_plan_here"]
theorem sc_l_plan_of : FnScope N_l_plan_of ["_law_plan_here"] (defScope s_l_plan_of) := ⟨rfl, rfl, rfl, by decide +kernel, rfl, by decide +kernel, by decide +kernel⟩

/-- x is a plan of the program's with these parts -/
structure PlanI (p C : Addr) (H : Hp) (x : V) (pl : Pl) : Prop where
  ex : ∃ (a dx ca sl : Addr) (fs : List (Str × V)) (xs : List V), x = .ref a ∧ H a = some (.ins C dx fs) ∧ fs.lookup ("_base" : Str) = some (.ref ca) ∧ fs.lookup ("_width" : Str) = some (.int pl.w) ∧ fs.lookup ("_steps" : Str) = some (.ref sl) ∧
    H ca = some (.tup (ivs pl.cs)) ∧ sl ≠ p ∧ H sl = some (.lst xs) ∧ Paired (StepV H) xs pl.sts
theorem PlanI.kp {p C : Addr} {H H' : Hp} {x : V} {pl : Pl} (k : Kp p H H') (h : PlanI p C H x pl) : PlanI p C H' x pl := by
  obtain ⟨a, dx, ca, sl, fs, xs, e, h1, l1, l2, l3, h2, n, h3, h4⟩ := h.ex
  exact ⟨a, dx, ca, sl, fs, xs, e, k.ins h1, l1, l2, l3, k.tup h2, n, k.lst n h3, steps_kp k h4⟩
def sp_eq (K : PySem.W.Frag) (C : Addr) : Sp := fun vs H Q _ => ∃ (p : Addr) (x y : V) (pl : Pl), vs = [x, y] ∧ PlanI p C H x pl ∧ ((∃ pl', PlanI p C H y pl' ∧ Q (.bl (samePl pl pl')) H) ∨ ∃ n, Ty K H y n ∧ Q (.bl false) H)

/-- a plan that was made, whole -/
structure PlanF (C : Addr) (H : Hp) (x : V) (pl : Pl) (sl ql el : Addr) : Prop where
  ex : ∃ a ca xs ys, x = .ref a ∧ PlanX C a ca sl ql el H pl xs ys ∧ H ca = some (.tup (ivs pl.cs)) ∧ Paired (StepV H) xs pl.sts ∧ Paired (PieceA H) ys (allP pl.w 0 pl.sts)
  ok : OkP pl
structure PlanW (p C : Addr) (H : Hp) (x : V) (pl : Pl) : Prop where
  ex : ∃ sl ql el, PlanF C H x pl sl ql el ∧ sl ≠ p ∧ ql ≠ p ∧ el ≠ p
structure PlanN (C : Addr) (H0 H : Hp) (x : V) (pl : Pl) : Prop where
  ex : ∃ sl ql el, PlanF C H x pl sl ql el ∧ H0 sl = none ∧ H0 ql = none ∧ H0 el = none
theorem PlanF.kp {p C sl ql el : Addr} {H H' : Hp} {x : V} {pl : Pl} (h : PlanF C H x pl sl ql el) (k : Kp p H H') (n1 : sl ≠ p) (n2 : ql ≠ p) (n3 : el ≠ p) : PlanF C H' x pl sl ql el := by
  obtain ⟨a, ca, xs, ys, e, ⟨⟨dx, fs, h1, h2⟩, h3, h4, h5⟩, h6, h7, h8⟩ := h.ex
  exact ⟨⟨a, ca, xs, ys, e, ⟨⟨dx, fs, k.ins h1, h2⟩, k.lst n1 h3, k.lst n2 h4, k.lst n3 h5⟩, k.tup h6, steps_kp k h7, pieceA_kp k h8⟩, h.ok⟩
theorem PlanF.same {C sl ql el : Addr} {H H' : Hp} {x : V} {pl : Pl} (h : PlanF C H x pl sl ql el) (s : Same H H') : PlanF C H' x pl sl ql el := by
  obtain ⟨a, ca, xs, ys, e, ⟨⟨dx, fs, h1, h2⟩, h3, h4, h5⟩, h6, h7, h8⟩ := h.ex
  exact ⟨⟨a, ca, xs, ys, e, ⟨⟨dx, fs, s _ _ h1, h2⟩, s _ _ h3, s _ _ h4, s _ _ h5⟩, s _ _ h6, steps_same s h7, pieceA_st s h8⟩, h.ok⟩
theorem PlanW.kp {p C : Addr} {H H' : Hp} {x : V} {pl : Pl} (h : PlanW p C H x pl) (k : Kp p H H') : PlanW p C H' x pl := by
  obtain ⟨sl, ql, el, f, n1, n2, n3⟩ := h.ex
  exact ⟨sl, ql, el, f.kp k n1 n2 n3, n1, n2, n3⟩
theorem PlanW.same {p C : Addr} {H H' : Hp} {x : V} {pl : Pl} (h : PlanW p C H x pl) (s : Same H H') : PlanW p C H' x pl := h.kp (Kp.same s)
theorem PlanN.w {p C : Addr} {H0 H : Hp} {x : V} {pl : Pl} {o : HO} (h : PlanN C H0 H x pl) (e : H0 p = some o) : PlanW p C H x pl := by
  obtain ⟨sl, ql, el, f, n1, n2, n3⟩ := h.ex
  exact ⟨sl, ql, el, f, nofree e n1 |>.symm |> fun z => z.symm, nofree e n2, nofree e n3⟩
theorem PlanW.i {p C : Addr} {H : Hp} {x : V} {pl : Pl} (h : PlanW p C H x pl) : PlanI p C H x pl := by
  obtain ⟨sl, ql, el, f, n1, n2, n3⟩ := h.ex
  obtain ⟨a, ca, xs, ys, e, ⟨⟨dx, fs, h1, h2, h2', h2'', _⟩, h3, h4, h5⟩, h6, h7, h8⟩ := f.ex
  exact ⟨a, dx, ca, sl, fs, xs, e, h1, h2, h2', h2'', h6, n1, h3, h7⟩
theorem PlanW.ok {p C : Addr} {H : Hp} {x : V} {pl : Pl} (h : PlanW p C H x pl) : OkP pl := by
  obtain ⟨_, _, _, f, _⟩ := h.ex
  exact f.ok
/-- the classes' facts of the five properties -/
structure PropC (P : Program) (w : World) (K : PySem.W.Frag) (mg : Str → Option Value) (base : Heap) (C : Addr) (f : Str) (sp : Sp) : Prop where
  ex : ∃ p g fd, PropOf K C f p g ∧ FnOk P w K mg base CX0 1 g fd ["self"] sp ∧ Binds K fd ["self"] []
theorem pe_propC {X : Cx} {C : Addr} {f : Str} {sp : Sp} {e : Expr} {pos : Pos} {ta : TE} {j : Nat} (c : Cls X.K C) (h : PropC X.prog X.w X.K X.mg X.base C f sp) (hr : Room j X.A) (he : PE X e ta) (hj : 2 ≤ j := by decide) (hab : attributeBase e f X.env (eval e X.env) = eval e X.env := by rfl) :
    PE X (.Attribute e f pos) (tProp C sp [] E0 ta) := by
  obtain ⟨p, g, fd, hp, F, b⟩ := h.ex
  exact pe_prop he c hp F (hr.mono hj) b .nil pass0 hab
def sp_plan_of (C : Addr) : Sp := fun vs H Q _ => ∃ (p : Addr) (v : V) (pl : Pl), vs = [v] ∧ PlanV p H v pl ∧ OkP pl ∧ ∀ y H', Same H H' → PlanN C H H' y pl → Q y H'

theorem made_outW {K : PySem.W.Frag} {C : Addr} {wd : Int} {pl : Pl} {H G : Hp} {Q : VK} {E : XK} {x dx ca sa : Addr} {xs : List V} (hw : wd = pl.w) (hx : H x = none) (s0 : Same H G) (gx : G x = some (.ins C dx [])) (h1 : G ca = some (.tup (ivs pl.cs))) (h2 : G sa = some (.lst xs)) (h3 : Paired (StepV G) xs pl.sts) (okp : OkP pl)
    (k : ∀ H', Same H H' → PlanN C H H' (.ref x) pl → Q .non H') : sp_initX C [.ref x, .ref ca, .int wd, .ref sa] G Q E := by
  subst hw
  refine ⟨x, dx, ca, sa, pl, xs, rfl, gx, h1, h2, h3, okp, fun H' sl ql el fs ys ko nsl nql nel hx' l1 l2 l3 l4 l5 l6 l7 hsl hql hys hel => ?_⟩
  have s1 : Same H H' := fun b u e => ko b u (ne_of_none e hx) (s0 b u e)
  have nf : ∀ {c}, G c = none → H c = none := fun {c} e => s0.free e
  have kg : ∀ {c : Addr} {l : List V}, G c = some (.tup l) → H' c = some (.tup l) := fun {c l} e => ko c _ (ne_of e gx (by intro q; cases q)) e
  have st' : Paired (StepV H') xs pl.sts := L2.Paired.mapP h3 fun v st z => by
    cases st with
    | none => exact z
    | some fw =>
      obtain ⟨f, ws⟩ := fw
      obtain ⟨a, b, e, z1, z2⟩ := z
      exact ⟨a, b, e, kg z1, kg z2⟩
  exact k H' s1 ⟨sl, ql, el, ⟨⟨x, ca, xs, ys, rfl, ⟨⟨dx, fs, hx', l1, l2, l3, l4, l5, l6, l7⟩, hsl, hql, hel⟩, kg h1, st', hys⟩, okp⟩, nf nsl, nf nql, nf nel⟩
section
variable {P : Program} {w : World} {K : PySem.W.Frag} {mg : Str → Option Value} {base : Heap}
theorem ok_eq {f C : Addr} {fd : FuncData} (F : Fun K "__eq__" "Plan.__eq__" s_Plan___eq f fd) (T : Txt mg) (TC : PlanC K mg C) : FnOk P w K mg base CX0 1 f fd ["self", "other"] (sp_eq K C) := by
  have c_Plan := TC.mgC
  refine F.ok sc_Plan___eq (fun vs H Q E h => ?_) (fun cdv A outer s H vs Q E hr h => ?_)
  · obtain ⟨_, _, _, _, rfl, _⟩ := h
    rfl
  obtain ⟨p, x, y, pl, rfl, hx, k⟩ := h
  refine ⟨_, (pss_one (ps_ret (pe_and (pe_callB call_isi (by rfl) T.isinstance (by decide +kernel) (pa_cons (pv 1) (pa_cons (pe_glob (v := .ref C) rfl c_Plan rfl) pa_nil))) (pe_and (pe_cmpR (op_eqD hr.units) (pe_fld (pv 0) rfl) (pe_fld (pv 1) rfl) (nomark _)) (pe_and (pe_cmpR (op_eqD hr.units) (pe_fld (pv 0) rfl) (pe_fld (pv 1) rfl) (nomark _)) (pe_one (pe_cmpR (op_eqD hr.units) (pe_fld (pv 0) rfl) (pe_fld (pv 1) rfl) (nomark _)))))))), ?_⟩
  obtain ⟨a, dx, ca, sl, fs, xs, rfl, h1, l1, l2, l3, h2, n, h3, h4⟩ := hx.ex
  rcases k with ⟨pl', hy, k⟩ | ⟨m, t, k⟩
  · obtain ⟨b, dy, cb, tl, gs, ys, rfl, g1, m1, m2, m3, g2, n2, g3, g4⟩ := hy.ex
    refine ⟨_, rfl, .ref b, .ref C, _, _, true, rfl, .own C, TC.ty g1, TC.is1, ?_⟩
    refine ⟨_, rfl, iteT ?_⟩
    refine ⟨_, rfl, a, C, dx, fs, _, rfl, h1, TC.cl, TC.nB, l1, _, rfl, b, C, dy, gs, _, rfl, g1, TC.cl, TC.nB, m1, ?_⟩
    refine ⟨_, _, .tup (SqT.of h2) (dp_ints _), .tup (SqT.of g2) (dp_ints _), sh_ints _, sh_ints _, _, rfl, ?_⟩
    cases e1 : PyData.eqv (.tuple (dvs pl.cs)) (.tuple (dvs pl'.cs)) with
    | false =>
      refine iteF ?_
      have : samePl pl pl' = false := by unfold samePl; rw [e1]; rfl
      rw [this] at k
      exact k
    | true =>
      refine iteT ?_
      refine ⟨_, rfl, a, C, dx, fs, _, rfl, h1, TC.cl, TC.nW, l2, _, rfl, b, C, dy, gs, _, rfl, g1, TC.cl, TC.nW, m2, ?_⟩
      refine ⟨_, _, .int _, .int _, sh_int _, sh_int _, _, rfl, ?_⟩
      cases e2 : PyData.eqv (.int pl.w) (.int pl'.w) with
      | false =>
        refine iteF ?_
        have : samePl pl pl' = false := by unfold samePl; rw [e1, e2]; rfl
        rw [this] at k
        exact k
      | true =>
        refine iteT ?_
        refine ⟨_, rfl, a, C, dx, fs, _, rfl, h1, TC.cl, TC.nS, l3, _, rfl, b, C, dy, gs, _, rfl, g1, TC.cl, TC.nS, m3, ?_⟩
        refine ⟨_, _, .lst (SqL.of h3) (dp_steps h4), .lst (SqL.of g3) (dp_steps g4), sh_steps _, sh_steps _, ?_⟩
        have : samePl pl pl' = PyData.eqv (.list (stepsD pl.sts)) (.list (stepsD pl'.sts)) := by unfold samePl; rw [e1, e2]; rfl
        rw [this] at k
        exact k
  · refine ⟨_, rfl, y, .ref C, _, _, false, rfl, .own C, .base t.ty, TC.is0 m t.mem, ?_⟩
    exact ⟨_, rfl, iteF k⟩

theorem ok_plan_of {f C fI : Addr} {fd fdI : FuncData} (F : Fun K "_law_plan_of" "_law_plan_of" s_l_plan_of f fd) (T : Txt mg) (TC : PlanC K mg C) (M_Plan : Mk K C fI)
    (G_Plan : FnOk P w K mg base CX0 6 fI fdI ["self", "base", "width", "steps"] (sp_initX C)) (b_Plan : Binds K fdI ["self", "base", "width", "steps"] []) : FnOk P w K mg base CX0 8 f fd ["_law_plan_here"] (sp_plan_of C) := by
  refine F.ok sc_l_plan_of (fun vs H Q E h => ?_) (fun cdv A outer s H vs Q E hr h => ?_)
  · obtain ⟨_, _, _, rfl, _⟩ := h
    rfl
  obtain ⟨p, v, pl, rfl, hv, gd, k⟩ := h
  refine ⟨_, (pss_one (ps_ret (pe_make M_Plan G_Plan hr rfl TC.mgC b_Plan .nil pass0 (pa_cons (pe_ix ix_seq' (pv 0) pe_int (fun _ _ => rfl)) (pa_cons (pe_ix ix_seq' (pv 0) pe_int (fun _ _ => rfl)) (pa_cons (pe_ix ix_seq' (pv 0) pe_int (fun _ _ => rfl)) pa_nil)))))), ?_⟩
  obtain ⟨a, ca, sa, xs, rfl, h1, h2, n, h3, h4⟩ := hv.ex
  refine ⟨_, rfl, a, _, _, _, rfl, rfl, .inr h1, rfl, _, rfl, a, _, _, _, rfl, rfl, .inr h1, rfl, _, rfl, a, _, _, _, rfl, rfl, .inr h1, rfl, fun x dx hx hdx ndx => ?_⟩
  have s0 : Same H (upd (upd H dx (.own x)) x (.ins C dx [])) := fun b o e => by
    rw [upd_ne (ne_of_none e hx), upd_ne (ne_of_none e hdx)]
    exact e
  exact made_outW (K := K) (pl := pl) rfl hx s0 upd_same (s0 _ _ h2) (s0 _ _ h3) (steps_same s0 h4) gd fun H' s' n => ⟨rfl, k _ H' s' n⟩
end
end Af

set_option Elab.async false
set_option linter.all false
set_option maxRecDepth 100000
set_option maxHeartbeats 4000000
namespace Af
open PySem PySem.Spec PyProof.Rows L2
/-! data with dicts within, their keys ints and texts; its repr -/
def keyD : L2.Key → PyData
  | .inl i => .int i
  | .inr x => .str x
mutual
inductive Dx (K : PySem.W.Frag) (H : Hp) : V → PyData → Prop
  | non : Dx K H .non .none
  | bl (b : Bool) : Dx K H (.bl b) (.bool b)
  | int (i : Int) : Dx K H (.int i) (.int i)
  | str (x : Str) : Dx K H (.str x) (.str x)
  | lst {a : Addr} {xs : List V} {ds : List PyData} : H a = some (.lst xs) → DxAll K H xs ds → Dx K H (.ref a) (.list ds)
  | tup {a : Addr} {xs : List V} {ds : List PyData} : H a = some (.tup xs) → DxAll K H xs ds → Dx K H (.ref a) (.tuple ds)
  | dic {a : Addr} {rows : List (L2.Key × V)} {kvs : List (PyData × PyData)} : H a = some (.dK rows) → DxKv K H rows kvs → Dx K H (.ref a) (.dict kvs)
inductive DxAll (K : PySem.W.Frag) (H : Hp) : List V → List PyData → Prop
  | nil : DxAll K H [] []
  | cons {v : V} {vs : List V} {d : PyData} {ds : List PyData} : Dx K H v d → DxAll K H vs ds → DxAll K H (v :: vs) (d :: ds)
inductive DxKv (K : PySem.W.Frag) (H : Hp) : List (L2.Key × V) → List (PyData × PyData) → Prop
  | nil : DxKv K H [] []
  | cons {k : L2.Key} {v : V} {rows : List (L2.Key × V)} {d : PyData} {kvs : List (PyData × PyData)} : Dx K H v d → DxKv K H rows kvs → DxKv K H ((k, v) :: rows) ((keyD k, d) :: kvs)
end
mutual
theorem Dx.of {K : PySem.W.Frag} {H : Hp} : ∀ {v : V} {d : PyData}, Dq K H v d → Dx K H v d
  | _, _, .non => .non
  | _, _, .bl b => .bl b
  | _, _, .int i => .int i
  | _, _, .str x => .str x
  | _, _, .lst e t => .lst e (DxAll.of t)
  | _, _, .tup e t => .tup e (DxAll.of t)
  | _, _, .dic e => .dic e .nil
theorem DxAll.of {K : PySem.W.Frag} {H : Hp} : ∀ {v : List V} {d : List PyData}, DqAll K H v d → DxAll K H v d
  | _, _, .nil => .nil
  | _, _, .cons h t => .cons (Dx.of h) (DxAll.of t)
end
mutual
theorem Dx.same {K : PySem.W.Frag} {H H' : Hp} (s : Same H H') : ∀ {v : V} {d : PyData}, Dx K H v d → Dx K H' v d
  | _, _, .non => .non
  | _, _, .bl b => .bl b
  | _, _, .int i => .int i
  | _, _, .str x => .str x
  | _, _, .lst e t => .lst (s _ _ e) (DxAll.same s t)
  | _, _, .tup e t => .tup (s _ _ e) (DxAll.same s t)
  | _, _, .dic e t => .dic (s _ _ e) (DxKv.same s t)
theorem DxAll.same {K : PySem.W.Frag} {H H' : Hp} (s : Same H H') : ∀ {v : List V} {d : List PyData}, DxAll K H v d → DxAll K H' v d
  | _, _, .nil => .nil
  | _, _, .cons h t => .cons (Dx.same s h) (DxAll.same s t)
theorem DxKv.same {K : PySem.W.Frag} {H H' : Hp} (s : Same H H') : ∀ {v : List (L2.Key × V)} {d : List (PyData × PyData)}, DxKv K H v d → DxKv K H' v d
  | _, _, .nil => .nil
  | _, _, .cons h t => .cons (Dx.same s h) (DxKv.same s t)
end
theorem DxAll.len {K : PySem.W.Frag} {H : Hp} : ∀ {v : List V} {d : List PyData}, DxAll K H v d → v.length = d.length
  | _, _, .nil => rfl
  | _, _, .cons _ t => by rw [List.length_cons, List.length_cons, t.len]
theorem DxKv.len {K : PySem.W.Frag} {H : Hp} : ∀ {v : List (L2.Key × V)} {d : List (PyData × PyData)}, DxKv K H v d → v.length = d.length
  | _, _, .nil => rfl
  | _, _, .cons _ t => by rw [List.length_cons, List.length_cons, t.len]
theorem DxAll.at {K : PySem.W.Frag} {H : Hp} : ∀ {xs : List V} {ds : List PyData}, DxAll K H xs ds → ∀ {i : Nat} {y : V}, xs[i]? = some y → ∃ d, ds[i]? = some d ∧ Dx K H y d
  | _, _, .nil, i, y, h => by simp at h
  | _, _, .cons r t, 0, y, h => by cases h; exact ⟨_, rfl, r⟩
  | _, _, .cons r t, i + 1, y, h => t.at (i := i) h
theorem DxAll.app {K : PySem.W.Frag} {H : Hp} : ∀ {xs ys : List V} {ds es : List PyData}, DxAll K H xs ds → DxAll K H ys es → DxAll K H (xs ++ ys) (ds ++ es)
  | _, _, _, _, .nil, h => h
  | _, _, _, _, .cons r t, h => .cons r (t.app h)
theorem depthKv_key (k : L2.Key) (d : PyData) (r : List (PyData × PyData)) : PyData.depthKv ((keyD k, d) :: r) = max d.depth (PyData.depthKv r) := by
  cases k <;> simp only [PyData.depthKv, keyD, PyData.depth, Nat.zero_max]
theorem kv_le_l {k v : Str} : k.length ≤ (k ++ ": " ++ v).length := by rw [strLen_append, strLen_append]; omega
theorem kv_le_r {k v : Str} : v.length ≤ (k ++ ": " ++ v).length := by rw [strLen_append, strLen_append]; omega
section
variable {X : Cx} {pins : List (Addr × Obj)} {σ : L2.St} {H : Hp} {s : Shared}
theorem flat_sees (I : Inv X pins σ H s) {u : Value} {d : PyData} {as : List Addr} (r : Reads s.heap u d as) (no : d.hasDict = false) (sh : d.showable = true) (sz : d.shown.length ≤ sizeLine) : ∃ as bs, Reads s.heap u d as ∧ ReadAtMost s.heap d.depth bs ∧ ReprK X.prog X.w bs s.heap d.depth u d.shown := by
  obtain ⟨bs, h1, h2⟩ := ReprK.of_reads (prog := X.prog) (w := X.w) (h₀ := s.heap) r sh (fun z => by rw [no] at z; cases z) sz
  exact ⟨_, bs, r, h1, h2⟩
theorem key_sees (I : Inv X pins σ H s) {k : L2.Key} {u : Value} (hk : L2.keyIs k u = true) (sh : (keyD k).showable = true) (sz : (keyD k).shown.length ≤ sizeLine) : ∃ as bs, Reads s.heap u (keyD k) as ∧ ReadAtMost s.heap (keyD k).depth bs ∧ ReprK X.prog X.w bs s.heap (keyD k).depth u (keyD k).shown := by
  rcases L2.keyIs_shape hk with ⟨i, t, rfl, rfl⟩ | ⟨x, t, rfl, rfl⟩
  · exact flat_sees I (Reads.int i t) rfl sh sz
  · exact flat_sees I (Reads.str x t) rfl sh sz
mutual
theorem Dx.sees (I : Inv X pins σ H s) : ∀ (d : PyData) (v : V) (u : Value), Dx X.K H v d → RelV v u → d.showable = true → d.shown.length ≤ sizeLine →
    ∃ as bs, Reads s.heap u d as ∧ ReadAtMost s.heap d.depth bs ∧ ReprK X.prog X.w bs s.heap d.depth u d.shown
  | .none, _, _, h, r, sh, sz => by
    cases h
    cases r
    exact flat_sees I Reads.none rfl sh sz
  | .bool b, _, _, h, r, sh, sz => by
    cases h
    cases r
    exact flat_sees I (Reads.bool b) rfl sh sz
  | .int i, _, _, h, r, sh, sz => by
    cases h
    obtain ⟨t, rfl⟩ := r
    exact flat_sees I (Reads.int i t) rfl sh sz
  | .str x, _, _, h, r, sh, sz => by
    cases h
    obtain ⟨t, rfl⟩ := r
    exact flat_sees I (Reads.str x t) rfl sh sz
  | .list ds, _, _, h, r, sh, sz => by
    cases h with
    | @lst a xs _ hs ha =>
      cases r
      obtain ⟨its, rv, ⟨o, n, ho, hc, _, hd⟩, _⟩ := I.list (SqL.of hs)
      have sz' : (listText (PyData.shownAll ds)).length ≤ sizeLine := by simpa only [PyData.shown] using sz
      obtain ⟨as, bs, hr, hb, hk⟩ := Dx.seesAll I ds _ its ha rv (by simpa [PyData.showable] using sh) fun t ht => Nat.le_trans (listText_mem_le ht) sz'
      have rd : Reads s.heap (.ref a) (.list ds) _ := .list ho hc hd hr
      have new : a ∉ bs := not_mem_of_deeper rd (by simp only [PyData.depth]; omega) hb
      refine ⟨_, a :: bs, rd, ReadAtMost.cons rd (by simp only [PyData.depth]; omega) hb, ?_⟩
      simp only [PyData.depth, PyData.shown]
      cases its with
      | nil =>
        cases hr
        simp only [PyData.shownAll, listText_nil]
        exact ReprK.listEmpty ho hc hd
      | cons x l => exact ReprK.list ho hc hd new (by simpa using hk.length_eq) fun i y e => hk.item i y (by simpa using e)
  | .tuple ds, _, _, h, r, sh, sz => by
    cases h with
    | @tup a xs _ hs ha =>
      cases r
      obtain ⟨its, rv, ⟨o, ho, hc, n, hd⟩, _⟩ := I.tuple (SqT.of hs)
      have sz' : (tupleText (PyData.shownAll ds)).length ≤ sizeLine := by simpa only [PyData.shown] using sz
      obtain ⟨as, bs, hr, hb, hk⟩ := Dx.seesAll I ds _ its ha rv (by simpa [PyData.showable] using sh) fun t ht => Nat.le_trans (tupleText_mem_le ht) sz'
      have rd : Reads s.heap (.ref a) (.tuple ds) _ := .tuple ho hc hd hr
      have new : a ∉ bs := not_mem_of_deeper rd (by simp only [PyData.depth]; omega) hb
      refine ⟨_, a :: bs, rd, ReadAtMost.cons rd (by simp only [PyData.depth]; omega) hb, ?_⟩
      simp only [PyData.depth, PyData.shown]
      exact ReprK.tuple ho hc hd new hk
  | .dict kvs, _, _, h, r, sh, sz => by
    cases h with
    | @dic a rows _ ha hr =>
      cases r
      obtain ⟨_, hne, vs, rv, o, es, ep, h1, h2, h3, _, h4, _⟩ := dk_of I.hok ha
      have sz' : (dictText (PyData.shownKv kvs)).length ≤ sizeLine := by simpa only [PyData.shown] using sz
      obtain ⟨as1, as2, bs, r1, r2, hb, k1, k2⟩ := Dx.seesKv I kvs rows vs es.toList hr rv h4 (by simpa [PyData.showable] using sh) fun t ht => Nat.le_trans (dictText_mem_le ht) sz'
      have rd : Reads s.heap (.ref a) (.dict kvs) _ := .dict h1 h2.1 h3 r1 r2
      have new : a ∉ bs := not_mem_of_deeper rd (by simp only [PyData.depth]; omega) hb
      refine ⟨_, a :: bs, rd, ReadAtMost.cons rd (by simp only [PyData.depth]; omega) hb, ?_⟩
      simp only [PyData.depth, PyData.shown, PyData.shownKv_eq]
      exact ReprK.dict h1 h2.1 h3 hne new (ReprEntriesK.of_two es.toList _ _ k1 k2)
theorem Dx.seesAll (I : Inv X pins σ H s) : ∀ (ds : List PyData) (vs : List V) (us : List Value), DxAll X.K H vs ds → Vals vs us → PyData.showableAll ds = true → (∀ t ∈ PyData.shownAll ds, t.length ≤ sizeLine) →
    ∃ as bs, ReadsAll s.heap us ds as ∧ ReadAtMost s.heap (PyData.depthAll ds) bs ∧ ReprAllK X.prog X.w bs s.heap (PyData.depthAll ds) us (PyData.shownAll ds)
  | [], _, _, h, r, _, _ => by
    cases h
    cases r
    refine ⟨_, [], ReadsAll.nil, ⟨fun b z => (by simp at z), ?_⟩⟩
    simp only [PyData.shownAll]
    exact .nil
  | d :: ds, _, _, h, r, sh, sz => by
    cases h with
    | cons h1 h2 =>
      cases r with
      | cons r1 r2 =>
        have sh' : d.showable = true ∧ PyData.showableAll ds = true := by simpa [PyData.showableAll] using sh
        obtain ⟨a1, b1, q1, m1, k1⟩ := Dx.sees I d _ _ h1 r1 sh'.1 (sz _ (by simp only [PyData.shownAll]; exact List.mem_cons_self))
        obtain ⟨a2, b2, q2, m2, k2⟩ := Dx.seesAll I ds _ _ h2 r2 sh'.2 fun t ht => sz t (by simp only [PyData.shownAll]; exact List.mem_cons_of_mem _ ht)
        refine ⟨_, b1 ++ b2, ReadsAll.cons q1 q2, fun b hb => ?_, ?_⟩
        · simp only [PyData.depthAll]
          rcases List.mem_append.mp hb with hb | hb
          · obtain ⟨d', a', r', y⟩ := m1 b hb
            exact ⟨d', a', r', by omega⟩
          · obtain ⟨d', a', r', y⟩ := m2 b hb
            exact ⟨d', a', r', by omega⟩
        · simp only [PyData.depthAll, PyData.shownAll]
          refine .cons ((k1.more fun b hb => List.mem_append.mpr (.inl hb)).level_le (by omega)) (k2.more_le (fun b hb => List.mem_append.mpr (.inr hb)) (by omega))
theorem Dx.seesKv (I : Inv X pins σ H s) : ∀ (kvs : List (PyData × PyData)) (rows : List (L2.Key × V)) (vs : List (L2.Key × Value)) (es : List DictEntry), DxKv X.K H rows kvs → KV rows vs → Pairs (mixKind X.prog X.w) es vs → PyData.showableKv kvs = true → (∀ t ∈ PyData.shownKv kvs, t.length ≤ sizeLine) →
    ∃ as1 as2 bs, ReadsAll s.heap (es.map (·.key)) (kvs.map (·.1)) as1 ∧ ReadsAll s.heap (es.map (·.val)) (kvs.map (·.2)) as2 ∧ ReadAtMost s.heap (PyData.depthKv kvs) bs ∧
      ReprAllK X.prog X.w bs s.heap (PyData.depthKv kvs) (es.map (·.key)) (PyData.shownAll (kvs.map (·.1))) ∧ ReprAllK X.prog X.w bs s.heap (PyData.depthKv kvs) (es.map (·.val)) (PyData.shownAll (kvs.map (·.2)))
  | [], _, _, _, h, r, p, _, _ => by
    cases h
    cases r
    cases p
    refine ⟨_, _, [], ReadsAll.nil, ReadsAll.nil, fun b z => (by simp at z), ?_, ?_⟩
    · simp only [List.map_nil, PyData.shownAll]
      exact .nil
    · simp only [List.map_nil, PyData.shownAll]
      exact .nil
  | (dk, d) :: kvs, _, _, _, h, r, p, sh, sz => by
    cases h with
    | @cons k v rows _ _ h1 h2 =>
      cases r with
      | @cons _ y _ ys r1 r2 =>
        cases p with
        | @cons e _ es _ p1 p2 p3 =>
          obtain ⟨yk, yv⟩ := y
          obtain ⟨e1, e2⟩ := r1
          have e1' : k = yk := e1
          subst e1'
          have e2' : RelV v e.val := by rw [p2]; exact e2
          have sh' : ((keyD k).showable = true ∧ d.showable = true) ∧ PyData.showableKv kvs = true := by simpa [PyData.showableKv] using sh
          have z0 := sz ((keyD k).shown ++ ": " ++ d.shown) (by simp only [PyData.shownKv]; exact List.mem_cons_self)
          obtain ⟨a0, b0, q0, m0, k0⟩ := key_sees I (k := k) (u := e.key) p1 sh'.1.1 (Nat.le_trans kv_le_l z0)
          obtain ⟨a1, b1, q1, m1, k1⟩ := Dx.sees I d _ _ h1 e2' sh'.1.2 (Nat.le_trans kv_le_r z0)
          obtain ⟨c1, c2, b2, q2, q3, m2, k2, k3⟩ := Dx.seesKv I kvs _ _ _ h2 r2 p3 sh'.2 fun t ht => sz t (by simp only [PyData.shownKv]; exact List.mem_cons_of_mem _ ht)
          refine ⟨_, _, b0 ++ (b1 ++ b2), ReadsAll.cons q0 q2, ReadsAll.cons q1 q3, fun b hb => ?_, ?_, ?_⟩
          · simp only [PyData.depthKv]
            rcases List.mem_append.mp hb with hb | hb
            · obtain ⟨d', a', r', y⟩ := m0 b hb
              exact ⟨d', a', r', by omega⟩
            · rcases List.mem_append.mp hb with hb | hb
              · obtain ⟨d', a', r', y⟩ := m1 b hb
                exact ⟨d', a', r', by omega⟩
              · obtain ⟨d', a', r', y⟩ := m2 b hb
                exact ⟨d', a', r', by omega⟩
          · simp only [PyData.depthKv, List.map_cons, PyData.shownAll]
            exact .cons ((k0.more fun b hb => List.mem_append.mpr (.inl hb)).level_le (by omega)) (k2.more_le (fun b hb => List.mem_append.mpr (.inr (List.mem_append.mpr (.inr hb)))) (by omega))
          · simp only [PyData.depthKv, List.map_cons, PyData.shownAll]
            exact .cons ((k1.more fun b hb => List.mem_append.mpr (.inr (List.mem_append.mpr (.inl hb)))).level_le (by omega)) (k3.more_le (fun b hb => List.mem_append.mpr (.inr (List.mem_append.mpr (.inr hb)))) (by omega))
end
/-- repr of data of any kind, dicts within -/
def rReprX (K : PySem.W.Frag) : List V → Hp → VK → Prop := fun xs H Q => ∃ (x : V) (d : PyData), xs = [x] ∧ Dx K H x d ∧ d.showable = true ∧ d.depth ≤ 60 ∧ d.shown.length ≤ sizeLine ∧ Q (.str d.shown) H
theorem call_reprX (hg : X.A.guards = some []) (hu : X.A.units + 64 < cLine) : CallR X (.builtin "repr") (rReprX X.K) := by
  intro pins s σ H xs us Q I r h
  obtain ⟨x, d, rfl, hd, sh, dp, sz, q⟩ := h
  cases hd with
  | int i => exact call_reprA hg hu pins s σ H _ us Q I r ⟨_, _, rfl, .int i, sh, dp, sz, q⟩
  | non => exact call_reprA hg hu pins s σ H _ us Q I r ⟨_, _, rfl, .non, sh, dp, sz, q⟩
  | bl b => exact call_reprA hg hu pins s σ H _ us Q I r ⟨_, _, rfl, .bl b, sh, dp, sz, q⟩
  | str z => exact call_reprA hg hu pins s σ H _ us Q I r ⟨_, _, rfl, .str z, sh, dp, sz, q⟩
  | @lst a xs ds hs hd =>
    have dp' : PyData.depthAll ds + 1 ≤ 60 := by simpa only [PyData.depth] using dp
    obtain ⟨u, rfl, ru⟩ := vals1 r
    cases (show u = Value.ref a from ru)
    obtain ⟨its, rv, ⟨o, n, ho, hc, _, hdd⟩, _⟩ := I.list (SqL.of hs)
    have sz' : (listText (PyData.shownAll ds)).length ≤ sizeLine := by simpa only [PyData.shown] using sz
    obtain ⟨as, bs, hr, hb, hk⟩ := Dx.seesAll I ds xs its hd rv (by simpa only [PyData.showable] using sh) fun t ht => Nat.le_trans (listText_mem_le ht) sz'
    have rd : Reads s.heap (.ref a) (.list ds) _ := .list ho hc hdd hr
    have new : a ∉ bs := not_mem_of_deeper rd (by simp only [PyData.depth]; omega) hb
    refine call_repr_slot (T := "list") (by omega) ⟨o, ho, hc⟩ PySem.F.slot_list_repr.toG ?_
    cases its with
    | nil =>
      cases hr
      have e0 : (PyData.list []).shown = ("[]" : Str) := by simp only [PyData.shown, PyData.shownAll, listText_nil]
      refine call_list_repr_empty ⟨o, ho, hc⟩ ho hdd ⟨_, _, rfl, .str (PyData.list []).shown, H, ?_, ⟨_, by rw [e0]⟩, q⟩
      exact I.kept (t' := _) fun _ _ y => y
    | cons y l =>
      refine call_list_reprK ho hc hdd new (by simpa using hk.length_eq) (fun i y e => hk.item i y (by simpa using e)) hg (fun b _ => Clear.nil b) (by show X.A.units + 1 + (PyData.depthAll ds + 1) < cLine; omega) (fun _ _ e => e) (fun h' u tk keep => ?_) sz'
      refine ⟨_, _, rfl, .str (PyData.list ds).shown, H, I.kept keep, ⟨u, ?_⟩, q⟩
      simp only [PyData.shown]
  | @tup a xs ds hs hd =>
    have dp' : PyData.depthAll ds + 1 ≤ 60 := by simpa only [PyData.depth] using dp
    obtain ⟨u, rfl, ru⟩ := vals1 r
    cases (show u = Value.ref a from ru)
    obtain ⟨its, rv, ⟨o, ho, hc, n, hdd⟩, _⟩ := I.tuple (SqT.of hs)
    have sz' : (tupleText (PyData.shownAll ds)).length ≤ sizeLine := by simpa only [PyData.shown] using sz
    obtain ⟨as, bs, hr, hb, hk⟩ := Dx.seesAll I ds xs its hd rv (by simpa only [PyData.showable] using sh) fun t ht => Nat.le_trans (tupleText_mem_le ht) sz'
    have rd : Reads s.heap (.ref a) (.tuple ds) _ := .tuple ho hc hdd hr
    have new : a ∉ bs := not_mem_of_deeper rd (by simp only [PyData.depth]; omega) hb
    refine call_repr_slot (T := "tuple") (by omega) ⟨o, ho, hc⟩ PySem.F.slot_tuple_repr (call_tuple_reprK ho hc hdd new hk hg (fun b _ => Clear.nil b) (by show X.A.units + 1 + (PyData.depthAll ds + 1) < cLine; omega) (fun _ _ e => e) (fun h' u tk keep => ?_) sz')
    refine ⟨_, _, rfl, .str (PyData.tuple ds).shown, H, I.kept keep, ⟨u, ?_⟩, q⟩
    simp only [PyData.shown]
  | @dic a rows kvs hs hd =>
    have dp' : PyData.depthKv kvs + 1 ≤ 60 := by simpa only [PyData.depth] using dp
    obtain ⟨u, rfl, ru⟩ := vals1 r
    cases (show u = Value.ref a from ru)
    obtain ⟨_, hne, vs, rv, o, es, ep, h1, h2, h3, _, h4, _⟩ := dk_of I.hok hs
    have sz' : (dictText (PyData.shownKv kvs)).length ≤ sizeLine := by simpa only [PyData.shown] using sz
    obtain ⟨as1, as2, bs, r1, r2, hb, k1, k2⟩ := Dx.seesKv I kvs rows vs es.toList hd rv h4 (by simpa [PyData.showable] using sh) fun t ht => Nat.le_trans (dictText_mem_le ht) sz'
    have rd : Reads s.heap (.ref a) (.dict kvs) _ := .dict h1 h2.1 h3 r1 r2
    have new : a ∉ bs := not_mem_of_deeper rd (by simp only [PyData.depth]; omega) hb
    have e1 := ReprEntriesK.of_two es.toList _ _ k1 k2
    rw [← PyData.shownKv_eq] at e1
    refine call_repr_slot (T := "dict") (by omega) ⟨o, h1, h2.1⟩ PySem.F.slot_dict_repr (call_dict_reprK h1 h2.1 h3 hne new e1 hg (fun b _ => Clear.nil b) (by show X.A.units + 1 + (PyData.depthKv kvs + 1) < cLine; omega) (fun _ _ e => e) (fun h' u tk keep => ?_) sz')
    refine ⟨_, _, rfl, .str (PyData.dict kvs).shown, H, I.kept keep, ⟨u, ?_⟩, q⟩
    simp only [PyData.shown]
end
end Af

set_option Elab.async false
set_option linter.all false
set_option maxRecDepth 100000
set_option maxHeartbeats 4000000
namespace Af
open PySem PySem.Spec PyProof.Rows L2
theorem _root_.L2.Room.u1 {k : Nat} {A : Around} (r : L2.Room k A) : A.units + 1 < cLine := by have := r.units; omega
/-! patterns: dicts of cells and ascending worths; patterns among data -/
section
variable {K : PySem.W.Frag} {H : Hp}
theorem dx_ty {x : V} {d : PyData} (h : Dx K H x d) : ∃ n, Ty K H x n := by
  cases h with
  | non => exact ⟨_, .non, by decide, fun _ _ _ e => by cases e⟩
  | bl b => exact ⟨_, .bl b, by decide, fun _ _ _ e => by cases e⟩
  | int i => exact ⟨_, .int i, by decide, fun _ _ _ e => by cases e⟩
  | str z => exact ⟨_, .str z, by decide, fun _ _ _ e => by cases e⟩
  | lst e t => exact ⟨_, .lst e, by decide, fun b o u z q => by cases z; rw [e] at q; cases q⟩
  | tup e t => exact ⟨_, .tup e, by decide, fun b o u z q => by cases z; rw [e] at q; cases q⟩
  | dic e t => exact ⟨_, .dK e, by decide, fun b o u z q => by cases z; rw [e] at q; cases q⟩
theorem dx_idx {x : V} {d : PyData} (h : Dx K H x d) (m : Int) : idxB m x = idxD m d := by
  cases h <;> rfl
theorem dx_all {m : Int} : ∀ {xs : List V} {ds : List PyData}, DxAll K H xs ds → xs.all (idxB m) = ds.all (idxD m)
  | _, _, .nil => rfl
  | _, _, .cons r t => by rw [List.all_cons, List.all_cons, dx_idx r, dx_all t]
theorem dx_empty : ∀ {xs : List V} {ds : List PyData}, DxAll K H xs ds → xs.isEmpty = ds.isEmpty
  | _, _, .nil => rfl
  | _, _, .cons _ _ => rfl
theorem dx_worths {x : V} {d : PyData} (h : Dx K H x d) : worthsB H x = worthsD d := by
  cases h with
  | lst e t => simp only [worthsB, e, worthsD]
  | tup e t => simp only [worthsB, e, worthsD]; rw [dx_empty t, dx_all t]
  | dic e t => simp only [worthsB, e, worthsD]
  | _ => rfl
theorem DxAll.mem : ∀ {xs : List V} {ds : List PyData}, DxAll K H xs ds → ∀ {y : V}, y ∈ xs → ∃ d ∈ ds, Dx K H y d
  | _, _, .nil, y, h => by cases h
  | _, _, .cons r t, y, h => by
    rcases List.mem_cons.mp h with rfl | h
    · exact ⟨_, List.mem_cons_self, r⟩
    · obtain ⟨d, h1, h2⟩ := t.mem h
      exact ⟨d, List.mem_cons_of_mem _ h1, h2⟩
/-- lists and tuples at the top are not long -/
def WdD (d : PyData) : Prop := ∀ ds, d = .tuple ds ∨ d = .list ds → ds.length ≤ 1000
theorem dx_th1 {x : V} {d : PyData} (h : Dx K H x d) (w : WdD d) : Th K H 1 x := by
  refine ⟨dx_ty h, fun a xs e z => ?_⟩
  subst e
  cases h with
  | @lst _ ys ds e t =>
    have l := w ds (.inr rfl)
    rcases z with z | z
    · rw [e] at z; cases z
    · rw [e] at z; cases z; exact ⟨by rw [t.len]; omega, fun y hy => by obtain ⟨d, _, q⟩ := t.mem hy; exact dx_ty q⟩
  | @tup _ ys ds e t =>
    have l := w ds (.inl rfl)
    rcases z with z | z
    · rw [e] at z; cases z; exact ⟨by rw [t.len]; omega, fun y hy => by obtain ⟨d, _, q⟩ := t.mem hy; exact dx_ty q⟩
    · rw [e] at z; cases z
  | dic e t => rcases z with z | z <;> (rw [e] at z; cases z)
end
/-! ascending worths -/
def ascB : List Int → Bool
  | a :: b :: r => decide (a < b) && ascB (b :: r)
  | _ => true
def stI (ws : List Int) (i : Nat) : Bool := decide (ws.getD i 0 < ws.getD (i + 1) 0)
theorem asc_range : ∀ ws : List Int, (List.range (ws.length - 1)).all (stI ws) = ascB ws
  | [] => rfl
  | [_] => rfl
  | a :: b :: r => by
    have ih := asc_range (b :: r)
    show (List.range (r.length + 1)).all (stI (a :: b :: r)) = (decide (a < b) && ascB (b :: r))
    rw [← ih, List.range_succ_eq_map, List.all_cons, List.all_map]
    rfl
theorem asc_iff : ∀ {ws : List Int}, ascB ws = true ↔ ws.Pairwise (· < ·)
  | [] => ⟨fun _ => .nil, fun _ => rfl⟩
  | [_] => ⟨fun _ => List.pairwise_singleton _ _, fun _ => rfl⟩
  | a :: b :: r => by
    have ih := asc_iff (ws := b :: r)
    show (decide (a < b) && ascB (b :: r)) = true ↔ _
    rw [Bool.and_eq_true, decide_eq_true_iff, ih]
    constructor
    · rintro ⟨h1, h2⟩
      refine List.pairwise_cons.mpr ⟨fun z hz => ?_, h2⟩
      rcases List.mem_cons.mp hz with rfl | hz
      · exact h1
      · have := (List.pairwise_cons.mp h2).1 z hz
        omega
    · intro h
      obtain ⟨h1, h2⟩ := List.pairwise_cons.mp h
      exact ⟨h1 b List.mem_cons_self, h2⟩
/-! patterns of any data -/
def intD : PyData → Int
  | .int i => i
  | _ => 0
def intsD : PyData → List Int
  | .tuple ds => ds.map intD
  | _ => []
def letD (d : PyData) : Bool := worthsD d && ascB (intsD d)
def patB (n : Int) : PyData → Bool
  | .dict kvs => kvs.all fun p => idxD n p.1 && letD p.2
  | _ => false
/-- a dict whose values are not long -/
def SzP (d : PyData) : Prop := ∀ kvs, d = .dict kvs → kvs.length ≤ 1000 ∧ (kvs.map (·.1)).Nodup ∧ ∀ p ∈ kvs, WdD p.2
section
variable {K : PySem.W.Frag} {H : Hp}
theorem idx_int {m : Int} {x : V} (h : idxB m x = true) : ∃ i, x = .int i ∧ 0 ≤ i ∧ i < m := by
  cases x with
  | int i =>
    have h : (decide (0 ≤ i) && decide (i < m)) = true := h
    rw [Bool.and_eq_true, decide_eq_true_iff, decide_eq_true_iff] at h
    exact ⟨i, rfl, h.1, h.2⟩
  | _ => cases h
theorem dx_int {m : Int} {x : V} {d : PyData} (q : Dx K H x d) (h : idxD m d = true) : x = .int (intD d) ∧ 0 ≤ intD d ∧ intD d < m := by
  rw [← dx_idx q] at h
  obtain ⟨i, rfl, a, b⟩ := idx_int h
  cases q
  exact ⟨rfl, a, b⟩
theorem dx_ints {m : Int} : ∀ {xs : List V} {ds : List PyData}, DxAll K H xs ds → ds.all (idxD m) = true → xs = ivs (ds.map intD) ∧ ∀ z ∈ ds.map intD, 0 ≤ z ∧ z < m
  | _, _, .nil, _ => ⟨rfl, fun z h => by cases h⟩
  | _, _, .cons r t, h => by
    rw [List.all_cons, Bool.and_eq_true] at h
    obtain ⟨e1, e2, e3⟩ := dx_int r h.1
    obtain ⟨a, b⟩ := dx_ints t h.2
    refine ⟨?_, fun z hz => ?_⟩
    · rw [e1, a]
      rfl
    · rcases List.mem_cons.mp hz with rfl | hz
      · exact ⟨e2, e3⟩
      · exact b z hz
/-- worths among data -/
theorem dx_let {x : V} {d : PyData} (q : Dx K H x d) (h : worthsD d = true) : ∃ a, x = .ref a ∧ H a = some (.tup (ivs (intsD d))) ∧ intsD d ≠ [] ∧ ∀ z ∈ intsD d, 0 ≤ z ∧ z < 8 := by
  cases q with
  | @tup a xs ds e t =>
    have h : (!ds.isEmpty && ds.all (idxD 8)) = true := h
    rw [Bool.and_eq_true] at h
    obtain ⟨e1, b⟩ := dx_ints t h.2
    refine ⟨a, rfl, by rw [e, e1]; rfl, fun z => ?_, b⟩
    cases ds with
    | nil => cases h.1
    | cons _ _ => cases z
  | _ => cases h
theorem dx_dict_or {x : V} {d : PyData} (h : Dx K H x d) : (∃ a rows kvs, x = .ref a ∧ H a = some (.dK rows) ∧ d = .dict kvs ∧ DxKv K H rows kvs) ∨ (∃ n, Ty K H x n ∧ isB n "dict" = false ∧ ∀ kvs, d ≠ .dict kvs) := by
  cases h with
  | non => exact .inr ⟨_, ⟨.non, by decide, fun _ _ _ e => by cases e⟩, by decide, fun _ e => by cases e⟩
  | bl b => exact .inr ⟨_, ⟨.bl b, by decide, fun _ _ _ e => by cases e⟩, by decide, fun _ e => by cases e⟩
  | int i => exact .inr ⟨_, ⟨.int i, by decide, fun _ _ _ e => by cases e⟩, by decide, fun _ e => by cases e⟩
  | str z => exact .inr ⟨_, ⟨.str z, by decide, fun _ _ _ e => by cases e⟩, by decide, fun _ e => by cases e⟩
  | lst e t => exact .inr ⟨_, ⟨.lst e, by decide, fun b o u z q => by cases z; rw [e] at q; cases q⟩, by decide, fun _ e => by cases e⟩
  | tup e t => exact .inr ⟨_, ⟨.tup e, by decide, fun b o u z q => by cases z; rw [e] at q; cases q⟩, by decide, fun _ e => by cases e⟩
  | dic e t => exact .inl ⟨_, _, _, rfl, e, rfl, t⟩
theorem ty_d {a : Addr} {rows : List (L2.Key × V)} (h : H a = some (.dK rows)) : Ty K H (.ref a) "dict" := ⟨.dK h, by decide, fun b o u e z => by cases e; rw [h] at z; cases z⟩
theorem isB_dd : isB "dict" "dict" = true := by decide
theorem DxKv.at : ∀ {rows : List (L2.Key × V)} {kvs : List (PyData × PyData)}, DxKv K H rows kvs → ∀ {i : Nat} {k : L2.Key} {v : V}, rows[i]? = some (k, v) → ∃ d, kvs[i]? = some (keyD k, d) ∧ Dx K H v d
  | _, _, .nil, i, k, v, h => by simp at h
  | _, _, .cons r t, 0, k, v, h => by cases h; exact ⟨_, rfl, r⟩
  | _, _, .cons r t, i + 1, k, v, h => t.at (i := i) h
theorem DxKv.keys : ∀ {rows : List (L2.Key × V)} {kvs : List (PyData × PyData)}, DxKv K H rows kvs → kvs.map (·.1) = (rows.map (·.1)).map keyD
  | _, _, .nil => rfl
  | _, _, .cons _ t => by rw [List.map_cons, List.map_cons, List.map_cons, t.keys]
theorem DxKv.nd {rows : List (L2.Key × V)} {kvs : List (PyData × PyData)} (h : DxKv K H rows kvs) (n : (kvs.map (·.1)).Nodup) : (rows.map (·.1)).Nodup := by
  rw [h.keys] at n
  exact (List.pairwise_map.mp n).imp fun {a b} z e => z (by rw [e])
theorem key_idx (k : L2.Key) (m : Int) : idxB m (kV k) = idxD m (keyD k) := by cases k <;> rfl
theorem key_ty (k : L2.Key) : ∃ n, Ty K H (kV k) n := by
  cases k with
  | inl i => exact ⟨_, .int i, by decide, fun _ _ _ e => by cases e⟩
  | inr x => exact ⟨_, .str x, by decide, fun _ _ _ e => by cases e⟩
theorem valV_at : ∀ {rows : List (L2.Key × V)} {i : Nat} {k : L2.Key} {v : V}, (rows.map (·.1)).Nodup → rows[i]? = some (k, v) → valV rows k = some v
  | [], i, k, v, _, h => by simp at h
  | p :: r, 0, k, v, _, h => by
    cases h
    exact valV_pos rfl
  | p :: r, i + 1, k, v, n, h => by
    rw [List.map_cons] at n
    obtain ⟨n1, n2⟩ := List.nodup_cons.mp n
    have hm : k ∈ r.map (·.1) := by
      have := List.mem_of_getElem? (l := r) (i := i) (by simpa using h)
      exact List.mem_map.mpr ⟨_, this, rfl⟩
    rw [valV_neg (fun e => n1 (by rw [e]; exact hm))]
    exact valV_at n2 (by simpa using h)
end
/-! locked while it is walked -/
theorem lock_same {H H' : Hp} {d : Addr} {u : HO} {od : Obj} (h : H d = some u) (s : Same (upd H d (.frz od u)) H') : Same H (upd H' d u) := fun a o e => by
  by_cases c : a = d
  · subst c
    rw [upd_same]
    rw [h] at e
    exact e
  · rw [upd_ne c]
    exact s a o (by rw [upd_ne c]; exact e)
theorem lock_at {H H' : Hp} {d : Addr} {u : HO} {od : Obj} (s : Same (upd H d (.frz od u)) H') : H' d = some (.frz od u) := s _ _ upd_same
theorem lock_get {H : Hp} {d a : Addr} {u o : HO} {od : Obj} (h : H d = some u) (e : H a = some o) (n : o ≠ u) : upd H d (.frz od u) a = some o := by
  rw [upd_ne (fun z => n (by rw [z, h] at e; exact (Option.some.inj e).symm))]
  exact e
/-- the heap without the locked dict -/
theorem lock_hd {H : Hp} {d : Addr} {x : HO} : Same (hd d H) (upd H d x) := fun a o e => by
  by_cases c : a = d
  · rw [c, show hd d H d = none from if_pos rfl] at e
    cases e
  · rw [hd_ne c] at e
    rw [upd_ne c]
    exact e
mutual
theorem Dx.fn {K : PySem.W.Frag} {H : Hp} : ∀ {v : V} {d : PyData}, Dx K H v d → ∀ {d' : PyData}, Dx K H v d' → d = d'
  | _, _, .non, _, h => by cases h; rfl
  | _, _, .bl b, _, h => by cases h; rfl
  | _, _, .int i, _, h => by cases h; rfl
  | _, _, .str x, _, h => by cases h; rfl
  | _, _, .lst e t, _, h => by
    cases h with
    | lst e' t' => rw [e] at e'; cases e'; rw [DxAll.fn t t']
    | tup e' t' => rw [e] at e'; cases e'
    | dic e' t' => rw [e] at e'; cases e'
  | _, _, .tup e t, _, h => by
    cases h with
    | lst e' t' => rw [e] at e'; cases e'
    | tup e' t' => rw [e] at e'; cases e'; rw [DxAll.fn t t']
    | dic e' t' => rw [e] at e'; cases e'
  | _, _, .dic e t, _, h => by
    cases h with
    | lst e' t' => rw [e] at e'; cases e'
    | tup e' t' => rw [e] at e'; cases e'
    | dic e' t' => rw [e] at e'; cases e'; rw [DxKv.fn t t']
theorem DxAll.fn {K : PySem.W.Frag} {H : Hp} : ∀ {v : List V} {d : List PyData}, DxAll K H v d → ∀ {d' : List PyData}, DxAll K H v d' → d = d'
  | _, _, .nil, _, h => by cases h; rfl
  | _, _, .cons r t, _, h => by
    cases h with
    | cons r' t' => rw [Dx.fn r r', DxAll.fn t t']
theorem DxKv.fn {K : PySem.W.Frag} {H : Hp} : ∀ {v : List (L2.Key × V)} {d : List (PyData × PyData)}, DxKv K H v d → ∀ {d' : List (PyData × PyData)}, DxKv K H v d' → d = d'
  | _, _, .nil, _, h => by cases h; rfl
  | _, _, .cons r t, _, h => by
    cases h with
    | cons r' t' => rw [Dx.fn r r', DxKv.fn t t']
end
/-- what is less deep than what stands at a is told without a -/
theorem dp_l {ds : List PyData} : (PyData.list ds).depth = PyData.depthAll ds + 1 := by simp only [PyData.depth]
theorem dp_t {ds : List PyData} : (PyData.tuple ds).depth = PyData.depthAll ds + 1 := by simp only [PyData.depth]
theorem dp_d {kvs : List (PyData × PyData)} : (PyData.dict kvs).depth = PyData.depthKv kvs + 1 := by simp only [PyData.depth]
mutual
theorem Dx.off {K : PySem.W.Frag} {H : Hp} {a : Addr} {D : PyData} (h : Dx K H (.ref a) D) : ∀ {v : V} {d : PyData}, Dx K H v d → d.depth < D.depth → Dx K (hd a H) v d
  | _, _, .non, _ => .non
  | _, _, .bl b, _ => .bl b
  | _, _, .int i, _ => .int i
  | _, _, .str x, _ => .str x
  | _, _, .lst (a := b) e t, l => by
    have ne : b ≠ a := fun z => by
      subst z
      rw [Dx.fn h (.lst e t)] at l
      omega
    exact .lst ((hd_ne ne).trans e) (DxAll.off h t (by rw [dp_l] at l; omega))
  | _, _, .tup (a := b) e t, l => by
    have ne : b ≠ a := fun z => by
      subst z
      rw [Dx.fn h (.tup e t)] at l
      omega
    exact .tup ((hd_ne ne).trans e) (DxAll.off h t (by rw [dp_t] at l; omega))
  | _, _, .dic (a := b) e t, l => by
    have ne : b ≠ a := fun z => by
      subst z
      rw [Dx.fn h (.dic e t)] at l
      omega
    exact .dic ((hd_ne ne).trans e) (DxKv.off h t (by rw [dp_d] at l; omega))
theorem DxAll.off {K : PySem.W.Frag} {H : Hp} {a : Addr} {D : PyData} (h : Dx K H (.ref a) D) : ∀ {v : List V} {d : List PyData}, DxAll K H v d → PyData.depthAll d < D.depth → DxAll K (hd a H) v d
  | _, _, .nil, _ => .nil
  | _, _, .cons r t, l => .cons (Dx.off h r (by simp only [PyData.depthAll] at l; omega)) (DxAll.off h t (by simp only [PyData.depthAll] at l; omega))
theorem DxKv.off {K : PySem.W.Frag} {H : Hp} {a : Addr} {D : PyData} (h : Dx K H (.ref a) D) : ∀ {v : List (L2.Key × V)} {d : List (PyData × PyData)}, DxKv K H v d → PyData.depthKv d < D.depth → DxKv K (hd a H) v d
  | _, _, .nil, _ => .nil
  | _, _, .cons r t, l => .cons (Dx.off h r (by simp only [PyData.depthKv] at l; omega)) (DxKv.off h t (by simp only [PyData.depthKv] at l; omega))
end
/-- the values of a dict, told while it is locked -/
theorem DxKv.lock {K : PySem.W.Frag} {H : Hp} {a : Addr} {rows : List (L2.Key × V)} {kvs : List (PyData × PyData)} {x : HO} (e : H a = some (.dK rows)) (t : DxKv K H rows kvs) : DxKv K (upd H a x) rows kvs :=
  DxKv.same lock_hd (DxKv.off (.dic e t) t (by rw [dp_d]; omega))
/-! patterns that are right -/
abbrev Ptn := List (Nat × List Int)
def RowV (H : Hp) (r : L2.Key × V) (p : Nat × List Int) : Prop := r.1 = .inl ((p.1 : Nat) : Int) ∧ ∃ t, r.2 = .ref t ∧ H t = some (.tup (ivs p.2))
structure PatV (H : Hp) (a : Addr) (ps : Ptn) : Prop where
  ex : ∃ rows, H a = some (.dK rows) ∧ Paired (RowV H) rows ps
theorem rows_kp {p : Addr} {H H' : Hp} {rows : List (L2.Key × V)} {ps : Ptn} (k : Kp p H H') (h : Paired (RowV H) rows ps) : Paired (RowV H') rows ps := L2.Paired.mapP h fun _ _ ⟨e, t, e2, z⟩ => ⟨e, t, e2, k.tup z⟩
theorem rows_same {H H' : Hp} {rows : List (L2.Key × V)} {ps : Ptn} (s : Same H H') (h : Paired (RowV H) rows ps) : Paired (RowV H') rows ps := rows_kp (p := 0) (Kp.same s) h
theorem PatV.kp {p a : Addr} {H H' : Hp} {ps : Ptn} (h : PatV H a ps) (k : Kp p H H') : PatV H' a ps := by
  obtain ⟨rows, h1, h2⟩ := h.ex
  exact ⟨rows, k _ _ (.inr fun l e => by cases e) h1, rows_kp k h2⟩
theorem PatV.same {a : Addr} {H H' : Hp} {ps : Ptn} (h : PatV H a ps) (s : Same H H') : PatV H' a ps := h.kp (p := 0) (Kp.same s)
structure OkPt (n : Nat) (ps : Ptn) : Prop where
  nd : (ps.map (·.1)).Nodup
  kb : ∀ p ∈ ps, p.1 < n
  ne : ∀ p ∈ ps, p.2 ≠ []
  asc : ∀ p ∈ ps, p.2.Pairwise (· < ·)
  rg : ∀ p ∈ ps, ∀ z ∈ p.2, 0 ≤ z ∧ z < 8
def patD (ps : Ptn) : PyData := .dict (ps.map fun p => (.int ((p.1 : Nat) : Int), .tuple (dvs p.2)))
theorem dx_pat {K : PySem.W.Frag} {H : Hp} {a : Addr} {ps : Ptn} (h : PatV H a ps) : Dx K H (.ref a) (patD ps) := by
  obtain ⟨rows, h1, h2⟩ := h.ex
  refine .dic h1 ?_
  clear h1 h
  induction h2 with
  | nil => exact .nil
  | @cons r p rs ps hr t ih =>
    obtain ⟨k, v⟩ := r
    obtain ⟨e1, t, e2, e3⟩ := hr
    have e1' : k = .inl ((p.1 : Nat) : Int) := e1
    have e2' : v = .ref t := e2
    subst e1' e2'
    exact .cons (k := .inl ((p.1 : Nat) : Int)) (Dx.of (.tup e3 (dq_ints p.2))) ih
theorem sub_lenI : ∀ {l1 l2 : List Int}, l1.Nodup → (∀ x ∈ l1, x ∈ l2) → l1.length ≤ l2.length
  | [], _, _, _ => Nat.zero_le _
  | x :: l1, l2, n, s => by
    obtain ⟨n1, n2⟩ := List.nodup_cons.mp n
    have h := sub_lenI (l2 := l2.erase x) n2 fun y hy => (List.mem_erase_of_ne (fun (e : y = x) => n1 (by rw [← e]; exact hy))).mpr (s y (List.mem_cons_of_mem _ hy))
    have hx := s x List.mem_cons_self
    rw [List.length_erase_of_mem hx] at h
    have := List.length_pos_of_mem hx
    rw [List.length_cons]
    omega
theorem asc_len {ws : List Int} (h : ws.Pairwise (· < ·)) (b : ∀ z ∈ ws, 0 ≤ z ∧ z < 8) : ws.length ≤ 8 := by
  have nd : ws.Nodup := h.imp fun {a b} z => by omega
  have : ws.length ≤ ([0, 1, 2, 3, 4, 5, 6, 7] : List Int).length := sub_lenI nd fun z hz => by
    have := b z hz
    simp only [List.mem_cons, List.not_mem_nil, or_false]
    omega
  exact this
theorem pat_sz {n : Nat} {ps : Ptn} (o : OkPt n ps) (hl : ps.length ≤ 1000) : SzP (patD ps) := fun kvs e => by
  cases e
  refine ⟨by rw [List.length_map]; exact hl, ?_, fun p hp => ?_⟩
  · rw [List.map_map]
    exact List.pairwise_map.mpr ((List.pairwise_map.mp o.nd).imp fun {a b} z e => z (by injection e; omega))
  · obtain ⟨q, hq, rfl⟩ := List.mem_map.mp hp
    intro ds e
    have := asc_len (o.asc q hq) (o.rg q hq)
    rcases e with e | e
    · cases e
      unfold dvs
      rw [List.length_map]
      omega
    · cases e
theorem pat_ok {n : Nat} {ps : Ptn} (o : OkPt n ps) : patB n (patD ps) = true := by
  show (ps.map fun p => (PyData.int ((p.1 : Nat) : Int), PyData.tuple (dvs p.2))).all _ = true
  rw [List.all_map, List.all_eq_true]
  intro p hp
  show (idxD n (.int ((p.1 : Nat) : Int)) && letD (.tuple (dvs p.2))) = true
  have kb := o.kb p hp
  have e1 : idxD (n : Int) (.int ((p.1 : Nat) : Int)) = true := by
    show (decide ((0 : Int) ≤ (p.1 : Int)) && decide ((p.1 : Int) < (n : Int))) = true
    rw [decide_eq_true (by omega), decide_eq_true (by omega)]
    rfl
  have rg := o.rg p hp
  have e2 : worthsD (.tuple (dvs p.2)) = true := by
    show (!(dvs p.2).isEmpty && (dvs p.2).all (idxD 8)) = true
    rw [Bool.and_eq_true, List.all_eq_true]
    refine ⟨?_, fun d hd => ?_⟩
    · have := o.ne p hp
      cases q : p.2 with
      | nil => exact absurd q this
      | cons _ _ => rfl
    · obtain ⟨z, hz, rfl⟩ := dvs_mem hd
      have := rg z hz
      show (decide (0 ≤ z) && decide (z < 8)) = true
      rw [decide_eq_true (by omega), decide_eq_true (by omega)]
      rfl
  have e3 : intsD (.tuple (dvs p.2)) = p.2 := by
    show (p.2.map PyData.int).map intD = p.2
    rw [List.map_map]
    exact List.map_id _
  unfold letD
  rw [e1, e2, e3, asc_iff.mpr (o.asc p hp)]
  rfl
/-- a content agrees with a pattern -/
def agB (ps : Ptn) (c : List Int) : Bool := ps.all fun p => p.2.contains (c.getD p.1 0)
/-! the texts of dicts -/
theorem Bd.dic {b n k : Nat} {kvs : List (PyData × PyData)} (h : ∀ p ∈ kvs, flatD p.1 = true ∧ Bd b n p.2) (hl : kvs.length ≤ k) : Bd (k * (b + 49) + 3) (n + 2) (.dict kvs) := by
  have tx : ((PyData.shownKv kvs).map (·.length)).sum ≤ (b + 47) * kvs.length ∧ (PyData.shownKv kvs).length = kvs.length ∧ PyData.showableKv kvs = true ∧ PyData.depthKv kvs ≤ n + 1 := by
    clear hl
    induction kvs with
    | nil => exact ⟨Nat.zero_le _, rfl, rfl, Nat.zero_le _⟩
    | cons p r ih =>
      obtain ⟨k, v⟩ := p
      obtain ⟨i1, i2, i3, i4⟩ := ih fun q hq => h q (List.mem_cons_of_mem _ hq)
      obtain ⟨f, hv⟩ := h (k, v) List.mem_cons_self
      obtain ⟨k1, k2, k3⟩ := flat_len f
      have v1 := hv.tx
      have v3 := hv.dp
      refine ⟨?_, ?_, ?_, ?_⟩
      · simp only [PyData.shownKv, List.map_cons, List.sum_cons, List.length_cons, Nat.mul_succ]
        have e : (k.shown ++ ": " ++ v.shown).length = k.shown.length + 2 + v.shown.length := by
          rw [strLen_append, strLen_append]
          rfl
        rw [e]
        dsimp only at k1 v1
        omega
      · simp only [PyData.shownKv, List.length_cons, i2]
      · simp only [PyData.showableKv, i3, Bool.and_true, Bool.and_eq_true]
        exact ⟨k2, hv.sh⟩
      · simp only [PyData.depthKv]
        dsimp only at v3 k3
        omega
  obtain ⟨t1, t2, t3, t4⟩ := tx
  have e : kvs.length * (b + 49) ≤ k * (b + 49) := Nat.mul_le_mul_right _ hl
  have e2 : kvs.length * (b + 49) = (b + 47) * kvs.length + 2 * kvs.length := by rw [Nat.mul_comm, ← Nat.add_mul]
  refine ⟨?_, ?_, ?_⟩
  · simp only [PyData.shown]
    have := dictText_len_le (PyData.shownKv kvs)
    rw [t2] at this
    omega
  · simp only [PyData.showable]
    exact t3
  · simp only [PyData.depth]
    omega
theorem bd_pat {n : Nat} {ps : Ptn} (o : OkPt n ps) (hn : n ≤ 24) (hl : ps.length ≤ 24) : Bd 31000 4 (patD ps) := by
  refine (Bd.dic (b := 1200) (n := 2) (k := 24) (fun p hp => ?_) (by rw [List.length_map]; exact hl)).mono (by decide) (by decide)
  obtain ⟨q, hq, rfl⟩ := List.mem_map.mp hp
  have kb := o.kb q hq
  exact ⟨flat_place ⟨by omega, by omega⟩, bd_cells (by have := asc_len (o.asc q hq) (o.rg q hq); omega) (o.rg q hq)⟩
theorem all_mapP {α : Type} (f : α → Bool) (l : List α) : (l.map f).all id = l.all f := by simp
theorem ivs_at {c : List Int} {i : Nat} (h : i < c.length) : (ivs c)[i]? = some (.int (c.getD i 0)) := by
  unfold ivs
  rw [List.getElem?_map, List.getElem?_eq_getElem h, List.getD_eq_getElem?_getD, List.getElem?_eq_getElem h]
  rfl
/-- what a pattern's rows hold while it is locked -/
theorem row_facts {H : Hp} {a : Addr} {rows : List (L2.Key × V)} {ps : Ptn} {od : Obj} {n : Nat} (ha : H a = some (.dK rows)) (hp : Paired (RowV H) rows ps) (o : OkPt n ps) : (rows.map (·.1)).Nodup ∧ ∀ (i : Nat) (k : L2.Key) (v : V), rows[i]? = some (k, v) → ∃ (p : Nat × List Int) (t : Addr), ps[i]? = some p ∧ k = .inl ((p.1 : Nat) : Int) ∧ v = .ref t ∧ upd H a (.frz od (.dK rows)) t = some (.tup (ivs p.2)) := by
  refine ⟨?_, fun i k v h => ?_⟩
  · have e : rows.map (·.1) = ps.map fun p => Sum.inl ((p.1 : Nat) : Int) := by
      clear o ha
      induction hp with
      | nil => rfl
      | cons r t ih => rw [List.map_cons, List.map_cons, ih, r.1]
    rw [e]
    exact List.pairwise_map.mpr ((List.pairwise_map.mp o.nd).imp fun {a b} z e => z (by injection e; omega))
  · obtain ⟨p, h1, e1, t, e2, h2⟩ := paired_get hp h
    exact ⟨p, t, h1, e1, e2, lock_get ha h2 (fun z => by cases z)⟩
/-! dicts that are written: their keys -/
theorem putK_keys {rows : List (L2.Key × V)} {ks : List Int} (h : rows.map (·.1) = ks.map Sum.inl) (z : Int) (v : V) : ∃ ks' : List Int, (putK rows (.inl z) v).map (·.1) = ks'.map Sum.inl ∧ (ks.Nodup → ks'.Nodup) ∧ (∀ x, x ∈ ks' ↔ x ∈ ks ∨ x = z) ∧ ks'.length ≤ ks.length + 1 := by
  unfold putK
  by_cases c : (rows.any fun kv => decide (kv.1 = .inl z)) = true
  · rw [if_pos c]
    have hz : z ∈ ks := by
      obtain ⟨p, hp, e⟩ := List.any_eq_true.mp c
      have e' := of_decide_eq_true e
      have m : (Sum.inl z : L2.Key) ∈ rows.map (·.1) := List.mem_map.mpr ⟨p, hp, e'⟩
      rw [h] at m
      obtain ⟨y, hy, e2⟩ := List.mem_map.mp m
      injection e2 with e2
      rw [← e2]
      exact hy
    refine ⟨ks, ?_, id, fun x => ⟨.inl, fun y => ?_⟩, Nat.le_succ _⟩
    · rw [← h, List.map_map]
      refine List.map_congr_left fun p _ => ?_
      show (if p.1 = .inl z then (p.1, v) else p).1 = p.1
      split <;> rfl
    · rcases y with y | rfl
      · exact y
      · exact hz
  · rw [if_neg c]
    have hz : z ∉ ks := fun hz => c (List.any_eq_true.mpr (by
      have m : (Sum.inl z : L2.Key) ∈ rows.map (·.1) := by rw [h]; exact List.mem_map.mpr ⟨z, hz, rfl⟩
      obtain ⟨p, hp, e⟩ := List.mem_map.mp m
      exact ⟨p, hp, decide_eq_true e⟩))
    refine ⟨ks ++ [z], ?_, fun n => ?_, fun x => ?_, by rw [List.length_append]; exact Nat.le_refl _⟩
    · rw [List.map_append, List.map_append, h]
      rfl
    · exact List.nodup_append.mpr ⟨n, by simp, fun x hx y hy e => by rw [List.mem_singleton.mp hy] at e; exact hz (e ▸ hx)⟩
    · rw [List.mem_append, List.mem_singleton]
theorem putK_snoc {rows : List (L2.Key × V)} {k : L2.Key} {v : V} (h : k ∉ rows.map (·.1)) : putK rows k v = rows ++ [(k, v)] := by
  unfold putK
  rw [if_neg]
  intro c
  obtain ⟨p, hp, e⟩ := List.any_eq_true.mp c
  exact h (List.mem_map.mpr ⟨p, hp, of_decide_eq_true e⟩)
/-- a dict of numbers, whatever they hold -/
def KeyV (H : Hp) (a : Addr) (ks : List Int) : Prop := ∃ rows : List (L2.Key × V), H a = some (.dK rows) ∧ rows.map (·.1) = ks.map Sum.inl
theorem KeyV.kp {p a : Addr} {H H' : Hp} {ks : List Int} (h : KeyV H a ks) (k : Kp p H H') : KeyV H' a ks := by
  obtain ⟨rows, h1, h2⟩ := h
  exact ⟨rows, k _ _ (.inr fun l e => by cases e) h1, h2⟩
theorem rows_upd {H : Hp} {a : Addr} {o u : HO} {rows : List (L2.Key × V)} {ps : Ptn} (e : H a = some u) (n : ∀ l, u ≠ .tup l) (h : Paired (RowV H) rows ps) : Paired (RowV (upd H a o)) rows ps := L2.Paired.mapP h fun _ _ ⟨e1, t, e2, z⟩ => ⟨e1, t, e2, by
  rw [upd_ne (fun q => by rw [q, e] at z; exact n _ (Option.some.inj z))]
  exact z⟩
theorem rows_keys {H : Hp} {rows : List (L2.Key × V)} {ps : Ptn} (h : Paired (RowV H) rows ps) : rows.map (·.1) = ps.map fun p => (Sum.inl ((p.1 : Nat) : Int) : L2.Key) := by
  induction h with
  | nil => rfl
  | cons r t ih => rw [List.map_cons, List.map_cons, ih, r.1]
end Af

set_option Elab.async false
set_option linter.all false
set_option maxRecDepth 100000
set_option maxHeartbeats 4000000
namespace Af
open PySem PySem.Spec PyProof.Rows L2
open Sem (wp)
/-! a display of a dict that begins with another one's entries: {**a, k: v, ..} -/
section
variable {prog : Program} {w : World} {K : Type} [DecidableEq K] {knd : KeyKind prog w K} {A : Around} {E : Value → Shared → Prop} {s : Shared}
theorem dictPut_eq (d : Addr) (h : Int) (key v : Value) : True := trivial
theorem wpAny_dictPut {d : Addr} {kvs : List (K × Value)} {k : K} {key v : Value} {Q : Unit → Shared → Prop} (hkey : knd.is k key = true) (hm : s.heap.DictOf knd d kvs)
    (hQ : ∀ h', h'.DictOf knd d (stored kvs k v) → Heap.SameBut d s.heap h' → Q () { s with heap := h' })
    (hsz : kvs.length ≤ sizeLine) :
    wpAny (model prog w) A (dictPut d (knd.hash k) key v) Q E s := by
  obtain ⟨o, es, ep, ho, hc, hd, hk, hp, hn⟩ := hm
  have hes : es.size ≤ sizeLine := by
    have e1 := hp.length
    have e2 : es.toList.length = es.size := by simp
    omega
  unfold dictPut
  refine wpAny_bind (wpAny_dictFind_of hkey ho hd hk ?_)
  have hidx : (es.findIdx? fun e => knd.is k e.key) = kvs.findIdx? fun kv => decide (kv.1 = k) := by
    rw [← hp.findIdx k]; obtain ⟨l⟩ := es; simp
  cases hi : es.findIdx? fun e => knd.is k e.key with
  | some i =>
    refine wpAny_updateDict ho hd (hQ _ ⟨_, _, ep, Heap.get?_update_self _ ho (Obj.isFreed_of_dict (Obj.data_mapDict hd _)),
      hc.mapDict _, Obj.data_mapDict hd _, hk.modify _ _, ?_, ?_⟩ (Heap.SameBut.update ..))
    · rw [stored, if_pos (any_of_findIdx_some (hidx ▸ hi))]
      have hl : (es.toList.findIdx? fun e => knd.is k e.key) = some i := by rw [← hi]; obtain ⟨l⟩ := es; simp
      have := hp.modify hn hl v
      obtain ⟨l⟩ := es
      simpa using this
    · rw [stored, if_pos (any_of_findIdx_some (hidx ▸ hi)), keys_map_store]; exact hn
  | none =>
    have hnot : k ∉ kvs.map (·.1) := not_mem_of_findIdx_none (hidx ▸ hi)
    have hany : ¬ (kvs.any fun kv => decide (kv.1 = k)) = true := by
      rw [List.any_eq_true]; rintro ⟨kv, hkv, he⟩
      exact hnot (List.mem_map.mpr ⟨kv, hkv, of_decide_eq_true he⟩)
    refine wpAny_updateDictKeys (hz := hes) ho hd (hQ _ ⟨_, _, ep + 1, Heap.get?_update_self _ ho (Obj.isFreed_of_dict (Obj.data_mapDictKeys hd _)),
      hc.mapDictKeys _, Obj.data_mapDictKeys hd _, hk.push hkey _, ?_, ?_⟩ (Heap.SameBut.update ..))
    · rw [stored, if_neg hany]
      have := hp.append hkey (knd.hash k) v
      obtain ⟨l⟩ := es
      simpa using this
    · rw [stored, if_neg hany, List.map_append, List.nodup_append]
      refine ⟨hn, by simp, ?_⟩
      intro a ha b hb
      simp only [List.map_cons, List.map_nil, List.mem_singleton] at hb
      subst hb
      exact fun e => hnot (e ▸ ha)
theorem wpAny_mergeMapping {d a : Addr} {kvs more : List (K × Value)} {Q : Unit → Shared → Prop} (hdo : d ≠ a) (hoS : (a == sysModules) = false)
    (hd : s.heap.DictOf knd d kvs) (ho : s.heap.DictOf knd a more)
    (hQ : ∀ h', h'.DictOf knd d (merged kvs more) → h'.DictOf knd a more → Heap.SameBut d s.heap h' → Q () { s with heap := h' })
    (hsz : kvs.length + more.length ≤ sizeLine) :
    wpAny (model prog w) A (mergeMapping d (.ref a) false) Q E s := by
  obtain ⟨od, esd, epd, hod, hcd, hdd, hkd, hpd, hnd⟩ := id hd
  obtain ⟨oo, eso, epo, hoo, hco, hdo', hko, hpo, hno⟩ := id ho
  have hlen : more.length = eso.size := by rw [← hpo.length]; simp
  unfold mergeMapping
  refine wpAny_bind (wpAny_isInstance ho.typeIs isSubtype_dict_dict ?_)
  simp only [if_true]
  refine wpAny_bind (wpAny_specialOf ho.typeIs F.slot_dict_iter.lookup (wpAny_bind (wpAny_pure ?_)))
  simp only [beq_self_eq_true]
  rw [if_neg (by rw [hoS]; exact Bool.false_ne_true)]
  have loop : wpAny (model prog w) A (do
      let l ← dictEntries a
      let epoch ← dictEpoch a
      forIn (List.range l.size) PUnit.unit fun i (_ : PUnit) => (do
          let l' ← dictEntries a
          match l'[i]? with
            | some e => do
              holding [e.key, e.val] (dictPut d e.hash e.key e.val)
              let ep' ← dictEpoch a
              if (ep' != epoch) = true then do
                  (unsupported "dict.changed-during-merge" : Sem PUnit)
                  pure (ForInStep.yield PUnit.unit)
                else pure (ForInStep.yield PUnit.unit)
            | _ => do
              (unsupported "dict.changed-during-merge" : Sem PUnit)
              pure (ForInStep.yield PUnit.unit) : Sem (ForInStep PUnit))
      pure ()) Q E s := by
    refine wpAny_bind (wpAny_dictEntries hoo hdo' ?_)
    refine wpAny_bind (wpAny_dictEpoch hoo hdo' ?_)
    refine wpAny_bind ?_
    rw [List.range_eq_range']
    refine wpAny_forIn_list _
      (fun rest _ s' => ∃ h' i, s' = { s with heap := h' } ∧ rest = List.range' i (eso.size - i) ∧ i ≤ eso.size ∧ h'.DictOf knd d (merged kvs (more.take i)) ∧ h'.get? a = some oo ∧ Heap.SameBut d s.heap h')
      _ ?_ ?_ _ _ ⟨s.heap, 0, rfl, by simp, Nat.zero_le _, by simpa [merged] using hd, hoo, Heap.SameBut.refl _ _⟩
    · rintro x rest b s' ⟨h', i, rfl, hr, hi, hd', hoo', hs'⟩
      have hlt : i < eso.size := by
        rcases Nat.lt_or_ge i eso.size with h | h
        · exact h
        · rw [Nat.sub_eq_zero_of_le h] at hr; simp at hr
      obtain ⟨rfl, hrest⟩ : x = i ∧ rest = List.range' (i + 1) (eso.size - (i + 1)) := by
        have e : eso.size - i = (eso.size - (i + 1)) + 1 := by omega
        rw [e, List.range'_succ] at hr
        injection hr with h1 h2
        exact ⟨h1, h2⟩
      refine wpAny_bind (wpAny_dictEntries hoo' hdo' ?_)
      rw [Array.getElem?_eq_getElem hlt]
      obtain ⟨kv, hkv⟩ : ∃ kv, more[x]? = some kv := ⟨more[x]'(by rw [hlen]; exact hlt), List.getElem?_eq_getElem _⟩
      obtain ⟨k, v⟩ := kv
      obtain ⟨hkey, hval⟩ := hpo.get? (e := eso[x]) (by simp [hlt]) hkv
      obtain ⟨k', hkey', hhash⟩ := hko eso[x] (Array.getElem_mem hlt)
      obtain rfl : k' = k := knd.inj _ _ _ hkey' hkey
      show wpAny _ _ (holding [eso[x].key, eso[x].val] (dictPut d eso[x].hash eso[x].key eso[x].val) >>= _) _ _ _
      rw [hhash, hval]
      have hmx : (merged kvs (more.take x)).length ≤ sizeLine := by
        have e1 := merged_length_le kvs (more.take x)
        have e2 : (more.take x).length ≤ more.length := by rw [List.length_take]; omega
        omega
      refine wpAny_bind (wpAny_holding (wpAny_dictPut hkey hd' (fun h'' hd'' hs'' => ?_) hmx))
      have hoo'' : h''.get? a = some oo := (hs''.2 a (Ne.symm hdo)).trans hoo'
      refine wpAny_bind (wpAny_dictEpoch hoo'' hdo' ?_)
      rw [if_neg (by simp)]
      exact wpAny_pure ⟨h'', x + 1, rfl, hrest, hlt, by rw [merged_take_succ kvs more x (k', v) hkv]; exact hd'', hoo'', hs'.trans hs''⟩
    · rintro b s' ⟨h', i, rfl, hr, hi, hd', hoo', hs'⟩
      have hin : i = eso.size := by
        rcases Nat.lt_or_ge i eso.size with h | h
        · have e : eso.size - i = (eso.size - (i + 1)) + 1 := by omega
          rw [e, List.range'_succ] at hr; exact nomatch hr
        · exact Nat.le_antisymm hi h
      refine wpAny_pure (hQ h' ?_ ⟨oo, eso, epo, hoo', hco, hdo', hko, hpo, hno⟩ hs')
      rw [hin, ← hlen, List.take_length] at hd'; exact hd'
  refine wpAny_bind (wpAny_dictEntries hod hdd ?_)
  split
  · refine wpAny_bind (wpAny_dictEntries hoo hdo' ?_)
    have h0 : (forIn eso PUnit.unit fun (e : DictEntry) (_ : PUnit) => (match e.key with
        | Value.ref a => do
          let q ← specialOf e.key (Str.ofString "__eq__")
          if (q != some (Value.builtin "object.__eq__")) = true then
              if (Array.filter (fun x => x.hash == e.hash) eso).size > 1 then do
                (unsupported "dict.merge-into-an-empty-dict:keys-of-equal-hash" : Sem PUnit)
                pure (ForInStep.yield PUnit.unit)
              else pure (ForInStep.yield PUnit.unit)
            else pure (ForInStep.yield PUnit.unit)
        | x => pure (ForInStep.yield PUnit.unit) : Sem (ForInStep PUnit))) = pure PUnit.unit := by
      rw [← Array.forIn_toList]
      refine forIn_yield_id _ fun e he c => ?_
      obtain ⟨k, hkey, _⟩ := hko e (Array.mem_toList_iff.mp he)
      have b := knd.byValue k _ hkey
      cases hk : e.key <;> first | rfl | (rw [hk] at b; cases b)
    exact wpAny_bind (wpAny_of_eq h0 loop)
  · exact loop
theorem forIn_gatherM (main : Option Addr) (f : (Option (Sem Value) × Sem Value) → (Option Addr × List (Sem Value × Sem Value)) → Sem (ForInStep (Option Addr × List (Sem Value × Sem Value))))
    (hf : ∀ (p : Sem Value × Sem Value) (run : List (Sem Value × Sem Value)), run.length + 1 < 17 → f (some p.1, p.2) (main, run) = pure (.yield (main, run ++ [p]))) :
    ∀ (items run : List (Sem Value × Sem Value)), run.length + items.length < 17 → forIn (items.map fun p => (some p.1, p.2)) (main, run) f = pure (main, run ++ items)
  | [], run, _ => by simp
  | p :: rest, run, h => by
    rw [List.map_cons, List.forIn_cons, hf p run (by simp at h; omega), pure_bind]
    have := forIn_gatherM main f hf rest (run ++ [p]) (by simp at h ⊢; omega)
    simpa using this
theorem wpAny_no {α : Type} {m : Sem α} {Q : α → Shared → Prop} {E' : Value → Shared → Prop} (h : wpAny (model prog w) A m Q (fun _ _ => False) s) : wpAny (model prog w) A m Q E' s := wpAny_mono h (fun _ _ x => x) fun _ _ x => x.elim
theorem wpAny_spread {m : Sem Value} {pairs : List (Sem Value × Sem Value)} {Q : Value → Shared → Prop} (h0 : pairs ≠ []) (hlen : pairs.length ≤ 15)
    (h : wpAny (model prog w) A m (fun v s1 => wpAny (model prog w) A (mergeMapping s.heap.objs.size v false) (fun _ s2 => wpAny (model prog w) A (subDict pairs) (fun sub s3 =>
      wpAny (model prog w) A (mergeMapping s.heap.objs.size (.ref sub) false) (fun _ s4 => Q (.ref s.heap.objs.size) s4) (fun _ _ => False) s3) E s2) (fun _ _ => False) s1) E
      { s with heap := s.heap.push { cls := .type "dict", data := .dict #[] } }) :
    wpAny (model prog w) A (dictDisplay ((none, m) :: pairs.map fun p => (some p.1, p.2))) Q E s := by
  unfold dictDisplay
  dsimp only
  rw [List.forIn_cons]
  simp only [List.isEmpty_nil, if_true, pure_bind]
  refine wpAny_bind (wpAny_bind (wpAny_bind (wpAny_alloc ?_)))
  refine wpAny_bind (wpAny_holding (wpAny_mono h (fun v s1 h1 => ?_) fun _ _ e => e))
  refine wpAny_bind (wpAny_onRaise (wpAny_tryCatch (wpAny_onRaise (wpAny_holding (wpAny_mono h1 (fun _ s2 h2 => ?_) fun _ _ x => x.elim)))))
  refine wpAny_pure ?_
  simp only []
  rw [forIn_gatherM (some s.heap.objs.size) _ (fun p run h => by
    have hne : ((run ++ [(p.1, p.2)]).length == 17) = false := by simp; omega
    simp only [hne, Bool.false_eq_true, if_false]) pairs [] (by simp; omega)]
  refine wpAny_pure ?_
  simp only [List.nil_append]
  have he : pairs.isEmpty = false := by
    cases pairs with
    | nil => exact absurd rfl h0
    | cons a b => rfl
  simp only [he, Bool.false_eq_true, if_false]
  refine wpAny_bind (wpAny_bind (wpAny_holding (wpAny_mono h2 (fun sub s3 h3 => ?_) fun _ _ e => e)))
  refine wpAny_bind (wpAny_onRaise (wpAny_holding (wpAny_mono h3 (fun _ s4 h4 => ?_) fun _ _ x => x.elim)))
  exact wpAny_pure (wpAny_pure h4)
end
/-- {**a, k: v, ..}: the new dict stands empty, then with a's entries, while the pairs are made -/
def tSpread (te : TE) (trs : List (TE × TE)) : TE := fun σ H Q => ∀ p, H p = none → te σ (upd H p (.dK [])) fun x H1 => ∃ a kvs, x = .ref a ∧ a ≠ p ∧ H1 a = some (.dK kvs) ∧ H1 p = some (.dK []) ∧ kvs.length ≤ 1000 ∧
  ∀ p2, H1 p2 = none → tPairs trs σ (upd (upd H1 p (.dK kvs)) p2 (.dK [])) fun ps H2 => H2 p = some (.dK kvs) ∧ H2 p2 = some (.dK []) ∧ ∃ kvs2 : List (Key × V), ps = kvs2.map (fun kv => (kV kv.1, kv.2)) ∧ kvs2.length ≤ 15 ∧
    Q (.ref p) (upd (upd H2 p2 (.dK (mergeK [] kvs2))) p (.dK (mergeK kvs (mergeK [] kvs2))))
theorem pe_spread {X : Cx} {pos : Pos} {e : Expr} {keys : List (Option Expr)} {values : List Expr} {te : TE} {trs : List (TE × TE)} (he : PE X e te) (h : PPs X pos keys values trs) (hall : keys.all (·.isSome) = true) (hl : keys.length = values.length) (h0 : keys ≠ [])
    (h15 : keys.length ≤ 15) : PE X (.Dict (none :: keys) (e :: values) pos) (tSpread te trs) := by
  refine ⟨fun pins s σ H Q I q => ?_⟩
  have hn := I.hok.fresh (Nat.le_refl s.heap.objs.size)
  have I1 := I.laid (a := s.heap.objs.size) (o := .dK []) (h' := s.heap.push { cls := .type "dict", data := .dict #[] }) (t' := s.toks) (fun _ _ q => Heap.get?_push_of_some _ q) (Nat.le_refl _) (dk_empty s.heap I.big)
  rw [arm_eval_Dict]
  refine wpAny_bind (wpAny_standAt ?_)
  have hz : (evalEachOpt (none :: keys) X.env).zip ((evalEach (e :: values) X.env).map fun v => do let x ← v; standAt pos; pure x) = (none, do let x ← eval e X.env; standAt pos; pure x) :: (pairTrees keys values X.env pos).map fun p => (some p.1, p.2) := by
    rw [← zip_pairTrees keys values X.env pos hall hl]
    rfl
  rw [hz]
  have hpl := pairTrees_length keys values X.env pos hall hl
  refine wpAny_spread (by intro z; rw [z] at hpl; exact h0 (List.length_eq_zero_iff.mp hpl.symm)) (by rw [hpl]; exact h15) ?_
  refine wpAny_bind (thn (he.run pins _ σ _ _ I1 (q _ hn)) fun v s1 ⟨x, H1, I2, rx, a, kvs, ex, nap, ha, hp, lk, q2⟩ => wpAny_bind (wpAny_standAt (wpAny_pure ?_)))
  subst ex
  cases rx
  obtain ⟨z, hd, vs, rel, dd⟩ := dk_of I2.hok ha
  obtain ⟨_, hd0, vs0, r0, dd0⟩ := dk_of I2.hok hp
  cases r0
  refine wpAny_mergeMapping (kvs := []) (more := vs) (fun e => nap e.symm) hd dd0 dd (fun h' dd' _ hs => ?_) (by rw [← rel.length, sizeLine_eq, List.length_nil]; omega)
  have hno : (vs.map (·.1)).Nodup := let ⟨_, _, _, _, _, _, _, _, hn⟩ := dd; hn
  rw [merged_nil_of_nodup vs hno] at dd'
  have he1 : ∃ q, h'.get? s.heap.objs.size = some q := let ⟨q, _, _, hq, _⟩ := dd'; ⟨q, hq⟩
  have I3 := d_write (t' := s1.toks) I2 (by rw [hp]; exact True.intro) hs he1 (dk_new z hd0 rel dd')
  have hn2 := I3.hok.fresh (Nat.le_refl h'.objs.size)
  have np2 : h'.objs.size ≠ s.heap.objs.size := fun e => by
    rw [e, upd_same] at hn2
    cases hn2
  rw [upd_ne np2] at hn2
  have I4 := I3.laid (a := h'.objs.size) (o := .dK []) (h' := h'.push { cls := .type "dict", data := .dict #[] }) (t' := s1.toks) (fun _ _ q => Heap.get?_push_of_some _ q) (Nat.le_refl _) (dk_empty h' I3.big)
  refine wpAny_subDict (knd := mixKind X.prog X.w) (by rw [hpl]; exact h15) (thn (h.run pins _ σ _ _ I4 (q2 _ hn2)) fun ws s2 ⟨ps, H2, I5, rel2, e1, e2, kvs2, ep, lk2, q3⟩ => ?_)
  subst ep
  obtain ⟨rs, c, rk⟩ := carries_of (P := X.prog) (w := X.w) rel2
  obtain ⟨z2, hd2, vs2, r2, dd2⟩ := dk_of I5.hok e2
  cases r2
  refine ⟨rs, c, dd2, fun h2 dd3 hs2 => ?_⟩
  have hz2 : (mergeK [] kvs2).length ≤ sizeLine := by
    have h1 := length_mergeK kvs2 []
    rw [List.length_nil] at h1
    rw [sizeLine_eq]; omega
  have he2 : ∃ q, h2.get? h'.objs.size = some q := let ⟨q, _, _, hq, _⟩ := dd3; ⟨q, hq⟩
  have I6 := d_write (t' := s2.toks + ws.length) I5 (by rw [e2]; exact True.intro) hs2 he2 (dk_new hz2 hd2 (rk.merge .nil) dd3)
  have e3 : (upd H2 h'.objs.size (.dK (mergeK [] kvs2))) s.heap.objs.size = some (.dK kvs) := by rw [upd_ne (Ne.symm np2)]; exact e1
  have e4 : (upd H2 h'.objs.size (.dK (mergeK [] kvs2))) h'.objs.size = some (.dK (mergeK [] kvs2)) := upd_same
  obtain ⟨z5, hd5, vs5, r5, dd5⟩ := dk_of I6.hok e3
  obtain ⟨z6, hd6, vs6, r6, dd6⟩ := dk_of I6.hok e4
  refine wpAny_mergeMapping (kvs := vs5) (more := vs6) (Ne.symm np2) hd6 dd5 dd6 (fun h3 dd7 _ hs3 => ?_) ?_
  · have hz3 : (mergeK kvs (mergeK [] kvs2)).length ≤ sizeLine := by
      have h1 := length_mergeK kvs2 []
      have h2 := length_mergeK (mergeK [] kvs2) kvs
      rw [List.length_nil] at h1
      rw [sizeLine_eq]; omega
    have he3 : ∃ q, h3.get? s.heap.objs.size = some q := let ⟨q, _, _, hq, _⟩ := dd7; ⟨q, hq⟩
    exact ⟨.ref s.heap.objs.size, _, d_write (t' := s2.toks + ws.length) I6 (by rw [e3]; exact True.intro) hs3 he3 (dk_new hz3 hd5 (r6.merge r5) dd7), rfl, q3⟩
  · rw [← r5.length, ← r6.length]
    have h1 := length_mergeK kvs2 []
    rw [List.length_nil] at h1
    rw [sizeLine_eq]; omega
end Af

set_option Elab.async false
set_option linter.all false
set_option maxRecDepth 100000
set_option maxHeartbeats 4000000
namespace Af
open PySem PySem.Spec PyProof.Rows L2
/-! d.update(e) of two dicts with keys of numbers and texts -/
def rUpdate : V → List V → Hp → VK → Prop := fun x xs H Q => ∃ (d e : Addr) (kvs more : List (L2.Key × V)), x = .ref d ∧ xs = [.ref e] ∧ d ≠ e ∧ H d = some (.dK kvs) ∧ H e = some (.dK more) ∧ kvs.length + more.length ≤ 1000 ∧ Q .non (upd H d (.dK (mergeK kvs more)))
theorem mt_update {X : Cx} : MtR X "dict.update" rUpdate := by
  intro pins s σ H x xs v us Q I rx rxs h
  obtain ⟨d, e, kvs, more, rfl, rfl, ne, hd, he, le, q⟩ := h
  cases rx
  obtain ⟨u, rfl, ru⟩ := rxs.one
  cases ru
  obtain ⟨z, lo, vs, rel, dd⟩ := dk_of I.hok hd
  obtain ⟨z2, lo2, vs2, rel2, dd2⟩ := dk_of I.hok he
  refine call_meetsIn PySem.F.slot_dict_update dd.typeIs PySem.F.entry_dict_update (PySem.F.args_dict_update_2 _ _) (meets_dict_update (mixKind X.prog X.w) d e ne lo2)
    ⟨vs, vs2, dd, dd2, by rw [← rel.length, ← rel2.length, sizeLine_eq]; omega, fun h' dd' _ hs => ?_⟩
  have hz : (mergeK kvs more).length ≤ sizeLine := by
    have h1 := length_mergeK more kvs
    rw [sizeLine_eq]; omega
  have he2 : ∃ q, h'.get? d = some q := let ⟨q, _, _, hq, _⟩ := dd'; ⟨q, hq⟩
  exact ⟨.non, _, d_write (t' := s.toks) I (by rw [hd]; exact True.intro) hs he2 (dk_new hz lo (rel2.merge rel) dd'), rfl, q⟩
end Af

set_option Elab.async false
set_option linter.all false
set_option maxRecDepth 100000
set_option maxHeartbeats 4000000
namespace Af
open PySem PySem.Spec PyProof.Rows PySem.Calls L2
/-! an own exception's __init__ whose first statement is super().__init__(..), over ValueError -/
/-- what the written part says of the class at C, of its __init__ at f, of the cell __class__ at cc, of the code object at cda -/
structure SupC (P : Program) (K : PySem.W.Frag) (mg : Str → Option Value) (C cc cda : Addr) : Prop where
  code : ∃ ccl cdd vs ccs file tf, K.lookup cda = some ⟨ccl, cdd, .fields vs, ccs⟩ ∧ vs[2]? = some (.str file tf) ∧ ((P.main.file : Str) == file) = true
  cell : ∃ cl cld csl, K.lookup cc = some ⟨cl, cld, .cell (some (.ref C)), csl⟩
  top : (P.main.scope.names.lookup ("super" : Str)).isSome = false
  sup : mg "super" = none
  opq : PySem.W.nsIn K cStatics "thirdparty.any" = some none
  init : PySem.W.ks_superIn K C C "__init__" = some (some (.builtin "ValueError.__init__"))
  ve : PySem.W.subIn K (.ref C) (.type "ValueError") = some true
theorem call_mw {X : Cx} {pins : List (Addr × Obj)} {σ : L2.St} {H : Hp} {s : Shared} {a C u : Addr} {us : List Value} {Q : Value → Shared → Prop} {E : Value → Shared → Prop} {A : Around} (T : OexC X.K C) (I : Inv X pins σ H s) (e : H a = some (exo a C none))
    (hu : s.heap.get? u = some (PySem.W.kxs_mw "ValueError.__init__" a)) (hl : us.length ≤ sizeLine) (h : ∀ s', Inv X pins σ H s' → Q .none s') : wpAny (model X.prog X.w) A (call (.ref u) us) Q E s := by
  obtain ⟨nm, q, N, bs, bm, sn, sub, ab, col, dd, k0, k1, k2, k3, k5, hC, hbm⟩ := T.cls
  obtain ⟨t1, ho⟩ := exo_at I.hok e
  obtain ⟨hp, g, d, t, os⟩ := s
  refine wpAny_call (codeAny_of_tree ?_)
  show wpAny _ A.in1 (callAny (.ref u) ⟨us, []⟩) _ _ _
  simp only [callAny]
  refine wpAny_bind (wpAny_load hu ?_)
  simp only [PySem.W.kxs_mw, show (Value.type "method-wrapper" == Value.type "method" || Value.type "method-wrapper" == Value.type "builtin_function_or_method" || Value.type "method-wrapper" == Value.type "method-wrapper") = true by decide, if_true]
  refine PySem.W.KFB.if_so (by decide) ?_
  refine wpAny_bind (PySem.W.check_bound_init F.excBase_ValueError.toExcCallFacts (I.kIn _ _ hC) ho rfl ?_)
  refine wpAny_bind (wpAny_pure (wpAny_pure ?_))
  refine ⟨plainId_quiet F.excBase_ValueError.init.plain _, codeAny_builtin F.excBase_ValueError.initEntry ?_⟩
  refine PySem.W.exc_init_tree (cls := .ref C) (t0 := t1) (dv := none) (c2 := .none) (c3 := .none) (b4 := .bool false) ho hl fun h' k hx _ => ?_
  have J := I.write (t' := t) (x := a) (e := a) (o := exo a C none) (by rw [e]; exact True.intro) (.inl rfl) k ⟨_, hx⟩ (exo_ok hx)
  have eu : upd H a (exo a C none) = H := by
    funext b
    by_cases hb : b = a
    · rw [hb, upd_same, e]
    · rw [upd_ne hb]
  rw [eu] at J
  exact h _ J
section
variable {P : Program} {w : World} {K : PySem.W.Frag} {mg : Str → Option Value} {base : Heap}
theorem fn_sup {CX : CXT} {k : Nat} {f C cc cda : Addr} {qual : Str} {params : Arguments} {rest : List Stmt} {e : Expr} {p0 p1 p2 p3 p4 : Pos} {scope : Scope} {dV kV doc pm ct oc : Value} {an od : Option Addr} {osl : Array (Option Value)} {N ps : List Str} {ar : Arg} {sp : Sp} {pl : Sem Bool}
    (T : OexC K C) (U : SupC P K mg C cc cda)
    (lk : K.lookup f = some ⟨oc, od, .func (PySem.W.fnX "__init__" qual params (.Expr (.Call (.Attribute (.Call (.Name "super" p0) [] [] p1) "__init__" p2) [e] [] p3) p4 :: rest) scope [("__class__", cc)] dV kV doc pm an (.ref cda) ct), osl⟩)
    (hcd : PySem.W.codeIn K (.ref cda) qual = true) (S : NdefX.NScope N (ar.arg :: ps) ["__class__"] scope) (hp : (params.posonlyargs ++ params.args).head? = some ar) (hks : scope.names.lookup ("super" : Str) = some .globalImplicit)
    (len : ∀ vs H Q E, sp vs H Q E → vs.length = ps.length + 1)
    (hc : ∀ env : Env, eval (.Call (.Attribute (.Call (.Name "super" p0) [] [] p1) "__init__" p2) [e] [] p3) env = (do
      let ov ← attributeBase (.Call (.Name "super" p0) [] [] p1) "__init__" env (eval (.Call (.Name "super" p0) [] [] p1) env)
      standAt p2.atName
      let (f, first) ← holding [ov] (getMethod ov "__init__" pl)
      callWith p3 f first (backTo p3 (starEach [e] env)) []))
    (hs : ∀ env : Env, swapsWith (.Call (.Attribute (.Call (.Name "super" p0) [] [] p1) "__init__" p2) [e] [] p3) none p4.line env = pure false) (he : ∀ env : Env, starEach [e] env = [(false, eval e env)])
    (hbody : ∀ (A : Around) (outer : List Env) (s : Shared) (H : Hp) (vs : List V) (Q : VK) (E : XK),
      Room k (NdefX.ncx CX P w K mg base N ⟨"__init__", qual, params, rest, scope, [("__class__", cc)], cda⟩ f A outer s H E).A → sp vs H Q E → ∃ (a : Addr) (ws : List V) (te : TE) (t : TS), vs = .ref a :: ws ∧ H a = some (exo a C none) ∧
      PE (NdefX.ncx CX P w K mg base N ⟨"__init__", qual, params, rest, scope, [("__class__", cc)], cda⟩ f A outer s H E) e te ∧
      PSs (NdefX.ncx CX P w K mg base N ⟨"__init__", qual, params, rest, scope, [("__class__", cc)], cda⟩ f A outer s H E) rest t ∧
      te (NdefX.startF N vs [none]) H fun x H1 => [x].length ≤ 1000 ∧ H1 a = some (exo a C none) ∧ t { nx := fun _ H' => Q .non H', rt := Q } (NdefX.startF N vs [none]) H1) :
    FnOk P w K mg base CX (k + 1) f (PySem.W.fnX "__init__" qual params (.Expr (.Call (.Attribute (.Call (.Name "super" p0) [] [] p1) "__init__" p2) [e] [] p3) p4 :: rest) scope [("__class__", cc)] dV kV doc pm an (.ref cda) ct) (ar.arg :: ps) sp := by
  refine ⟨len, fun A outer s H args us vs Q E hr e0 hb r hsp => ?_⟩
  have hl : vs.length = (ar.arg :: ps).length := len _ _ _ _ hsp
  have KX : K.In s.heap := e0.mod.kin.keeps fun b o e => (e0.bs b o e).1
  have lim : s.heap.NoLimit := e0.mod.nolimit.keeps fun b o e => (e0.bs b o e).1
  obtain ⟨cl, cld, csl, hcell⟩ := U.cell
  obtain ⟨ccl, cdd, cvs, ccs, file, tf, hcode, hvs, hfile⟩ := U.code
  have CA : NdefX.CellsAt [("__class__", cc)] ["__class__"] [none] s.heap H := by
    have hcc := e0.mod.kin _ _ hcell
    refine ⟨rfl, fun y c q => ?_, fun x y c q q' => ?_, fun i y q => ?_⟩
    · have : c = cc := by
        rw [List.lookup_cons] at q
        split at q
        · exact (Option.some.inj q).symm
        · cases q
      subst this
      exact ⟨(e0.bs _ _ hcc).2, _, _, (e0.bs _ _ hcc).1, rfl⟩
    · have key : ∀ z : Str, List.lookup z [(("__class__" : Str), cc)] = some c → z = "__class__" := fun z q => by
        rw [List.lookup_cons] at q
        split at q
        · rename_i h; simpa using h
        · cases q
      rw [key x q, key y q']
    · cases i with
      | zero =>
        have : y = "__class__" := (Option.some.inj q).symm
        subst this
        exact ⟨cc, by simp, fun v z => by cases z⟩
      | succ i => cases q
  refine PySem.ks_codeAny_call_defAt (fd := PySem.W.fnX "__init__" qual params _ scope [("__class__", cc)] dV kV doc pm an (.ref cda) ct) (binds := (ar.arg :: ps).zip us) hr.depth (KX _ _ lk) rfl lim (PySem.W.codeRec_of KX hcd) rfl hb S.nocell
    (fun ⟨n, _⟩ hy => S.par n (List.of_mem_zip hy).1) (fun h₀ hns kp => ?_) S.co S.gen S.kind
  obtain ⟨a, ws, te, t, rfl, ha, hte, ht, hq⟩ := hbody A outer s H vs Q E (hr.deeper _) hsp
  have I : Inv (NdefX.ncx CX P w K mg base N ⟨"__init__", qual, params, rest, scope, [("__class__", cc)], cda⟩ f A outer s H E) [] (NdefX.startF N (.ref a :: ws) [none]) H { s with heap := h₀, toks := s.toks + ((ar.arg :: ps).zip us).length } := NdefX.inv_startN (F := ⟨"__init__", qual, params, rest, scope, [("__class__", cc)], cda⟩) S hr.hd e0 hl r CA hns kp
  obtain ⟨nm, q, N0, bs, bm, sn, sub, ab, col, dd, k0, k1, k2, k3, k5, hC, hbm⟩ := T.cls
  have hcl : PySem.W.clsIn K C = some { name := nm, bases := bs, mro := .ref C :: bm, ns := N0, qualname := q, hasDict := true, slotNames := sn, subclasses := sub, abstract := ab, collection := col, hasDel := false } := by unfold PySem.W.clsIn; rw [hC] <;> rfl
  have hsub : PySem.W.mroIn K C (.ref C) = some true := by
    unfold PySem.W.mroIn
    rw [hcl]
    show (if (Value.ref C :: bm).isEmpty = true then none else some ((Value.ref C :: bm).contains (.ref C))) = some true
    rw [if_neg (by simp)]
    simp
  have K0 : K.In h₀ := KX.keeps kp
  obtain ⟨t1, hx⟩ := exo_at I.hok ha
  obtain ⟨mb, bl1, bl2⟩ := e0.mod.blt
  have hv : List.lookup ar.arg ((ar.arg :: ps).zip us).reverse = some (.ref a) := by
    cases r with
    | @cons _ u0 _ ur ra rw' =>
      obtain rfl : u0 = Value.ref a := ra
      have nd : (ar.arg :: ps).Nodup := by
        have q := S.nd.sublist (List.take_sublist ((ar.arg :: ps).length + [("__class__" : Str)].length) N)
        rw [S.pre] at q
        exact (List.nodup_append.mp q).1
      exact NdefX.zip_look (i := 0) nd rfl rfl
  have hxC : a ≠ C := fun z => by
    subst z
    rw [K0 _ _ hC] at hx
    cases hx
  refine ks_wpAt_execs_cons (ks_wpAt_Expr_any (ks_wpAt_MethodCall ?_ (hc _)) I.quiet (hs _))
  refine ks_wpAt_super_base hks (S.frk _ (by simp)) (by decide) rfl (kp _ _ (KX _ _ lk)) rfl hp rfl (kp _ _ (KX _ _ hcode)) rfl hvs hfile U.top ?_
  refine PySem.W.ks_loadName_global S.kind hks (loadGlobal_builtin (e0.mod.glob.keeps I.bk) U.sup (bl1.keeps I.bk) ((bl2 _ (by decide)).trans PyProof.Rows.Boot.«super») ⟨rfl, ?_⟩)
  refine wpAny_loadName_free S.kind (S.frk _ (by simp)) (show List.lookup _ [(("__class__" : Str), cc)] = some cc by simp) ⟨_, K0 _ _ hcell, rfl⟩ ?_
  refine wpAny_loadName_local S.kind (S.par _ (by simp)) hns hv ?_
  refine ks_wpAny_isType_cls (K0 _ _ hC) rfl ⟨rfl, ?_⟩
  refine ks_wpAny_call_super (K0 _ _ hC) rfl hx rfl (fun c e => by cases e) (PySem.W.looks_mroIn K0 hsub) (fun h1 so kk => ?_)
  have hf := U.init
  unfold PySem.W.ks_superIn at hf
  rw [hcl] at hf
  have K1 : K.In h1 := K0.keeps kk
  have J : PySem.W.InstAt h1 a ({ cls := .ref C, dict := none, data := .fields #[.ref t1, .none, .none, .none, .bool false, .none] } : Obj) C none := ⟨kk _ _ hx, rfl, rfl, trivial⟩
  refine PySem.W.kxs_getMethod PySem.W.kxs_ValueError so (PySem.W.looks_opaque K1 U.opq) (fun A Q E s k q => wpAny_bind ((PySem.W.looks_clsIn K1 hcl) A _ E s k (wpAny_pure q))) rfl K1 hf (J.type.andThen (PySem.W.looks_subIn K1 U.ve)) hxC (by decide) ?_
  have k2 : ∀ b o, h1.get? b = some o → (h1.push (PySem.W.kxs_mw "ValueError.__init__" a)).get? b = some o := fun b o e => Heap.get?_push_of_some _ e
  have I1 := I.kept (h' := h1) (t' := s.toks + ((ar.arg :: ps).zip us).length) kk
  have I2 := I1.kept (h' := h1.push (PySem.W.kxs_mw "ValueError.__init__" a)) (t' := s.toks + ((ar.arg :: ps).zip us).length + 1) k2
  have hu : (h1.push (PySem.W.kxs_mw "ValueError.__init__" a)).get? h1.objs.size = some (PySem.W.kxs_mw "ValueError.__init__" a) := Heap.get?_push_at rfl rfl
  have I3 : Inv (NdefX.ncx CX P w K mg base N ⟨"__init__", qual, params, rest, scope, [("__class__", cc)], cda⟩ f A outer s H E) [(h1.objs.size, PySem.W.kxs_mw "ValueError.__init__" a)] _ H _ := I2.pins_of fun p hp => by
    obtain rfl := List.mem_singleton.mp (show p ∈ [(h1.objs.size, PySem.W.kxs_mw "ValueError.__init__" a)] from hp)
    exact ⟨hu, I1.hok.fresh (Nat.le_refl _), Nat.ne_of_gt I1.lt, I1.nofs (Nat.le_refl _), fun v z => by cases z⟩
  have pae : PA (NdefX.ncx CX P w K mg base N ⟨"__init__", qual, params, rest, scope, [("__class__", cc)], cda⟩ f A outer s H E) [e] (tCons te tNil) := pa_cons hte pa_nil (by rw [he]; rfl)
  have run := pae.run p3 _ _ _ H (fun vs H1 => vs.length ≤ 1000 ∧ H1 a = some (exo a C none) ∧ t { nx := fun _ H' => Q .non H', rt := Q } (NdefX.startF N (.ref a :: ws) [none]) H1) I3 hq
  rw [he] at run
  refine PySem.W.kxs_callWith (i := "ValueError.__init__") (x := a) (by rw [he]; rfl) ?_
  rw [he]
  refine evalArgs_plain (wpAny_mono run (fun us1 s1 ⟨vs1, H1, I4, r1, l1, ea, q⟩ => ?_) fun _ _ z => z)
  refine ⟨(I4.pin _ (List.mem_singleton.mpr rfl)).1, ?_⟩
  refine call_mw (X := NdefX.ncx CX P w K mg base N ⟨"__init__", qual, params, rest, scope, [("__class__", cc)], cda⟩ f A outer s H E) T I4 ea (I4.pin _ (List.mem_singleton.mpr rfl)).1 (by show us1.length ≤ sizeLine; rw [← r1.length, sizeLine_eq]; omega) fun s2 I5 => ?_
  have I6 : Inv (NdefX.ncx CX P w K mg base N ⟨"__init__", qual, params, rest, scope, [("__class__", cc)], cda⟩ f A outer s H E) [] _ H1 s2 := I5.pins_of fun p hp => by cases hp
  refine wpAt_of_wpAny (wpAny_mono (ht.run [] _ _ H1 _ I6 q) (fun fl s' hs => ?_) fun e s' hs => hs)
  have fin : ∀ {σ' : L2.St} {H' : Hp} {v : V} {u : Value}, Inv (NdefX.ncx CX P w K mg base N ⟨"__init__", qual, params, rest, scope, [("__class__", cc)], cda⟩ f A outer s H E) [] σ' H' s' → L2.RelV v u → Q v H' → CE outer P w H s Q u s' :=
    fun {σ' H' v u} J rv q => ⟨v, H', J.os, J.bare, J.base, J.hok, rv, q⟩
  cases fl with
  | ret u =>
    obtain ⟨v, σ', H', J, rv, q⟩ := hs
    exact fin J rv q
  | next =>
    obtain ⟨σ', H', J, q⟩ := hs
    exact fin (v := V.non) (u := Value.none) J rfl q
  | brk =>
    obtain ⟨_, _, _, q⟩ := hs
    exact False.elim q
  | cont =>
    obtain ⟨_, _, _, q⟩ := hs
    exact False.elim q
end
end Af

set_option Elab.async false
set_option linter.all false
set_option maxRecDepth 100000
set_option maxHeartbeats 4000000
namespace Af
open PySem PySem.Spec PyProof.Rows PySem.Calls L2
/-- self.line = n of a ParseError that is being made -/
def sp_pe_init (C : Addr) : Sp := fun vs H Q _ => ∃ (a : Addr) (n : Int), vs = [.ref a, .int n] ∧ H a = some (exo a C none) ∧ 0 ≤ n ∧ n < 100000 ∧ ∀ dx, H dx = none → dx ≠ a → Q .non (upd (upd H dx (exd dx [("line", .int n)])) a (exo a C (some dx)))
theorem pe_raise {C : Addr} {n : Int} {H : Hp} {Q : XK} (n0 : 0 ≤ n) (n1 : n < 100000) (q : ∀ d H', Same H H' → H d = none → H' d = some (.xd [("line", .int n)]) → Q (.ref C) (some d) H') (a : Addr) (ha : H a = none) :
    sp_pe_init C (.ref a :: ([.int n] ++ [])) (upd H a (exo a C none)) (fun v H2 => v = .non ∧ ∃ (d : Addr) (fs : List (Str × V)), H2 a = some (exo a C (some d)) ∧ H2 d = some (exd d fs) ∧ H d = none ∧ Q (.ref C) (some d) (upd (del H2 a) d (.xd fs))) (fun _ _ _ => False) := by
  refine ⟨a, n, rfl, upd_same, n0, n1, fun dx hdx ne => ⟨rfl, dx, _, upd_same, (upd_ne ne).trans upd_same, ?_, ?_⟩⟩
  · rw [upd_ne ne] at hdx
    exact hdx
  · rw [upd_ne ne] at hdx
    refine q dx _ (fun b o e => ?_) hdx upd_same
    have ba : b ≠ a := ne_of_none e ha
    have bd : b ≠ dx := ne_of_none e hdx
    rw [upd_ne bd, del_ne ba, upd_ne ba, upd_ne bd, upd_ne ba]
    exact e
/-- the class ParseError, its __init__ told -/
structure PeC (P : Program) (w : World) (K : PySem.W.Frag) (mg : Str → Option Value) (base : Heap) (C : Addr) : Prop where
  T : OexC K C
  ex : ∃ (fI : Addr) (fd : FuncData), PySem.W.findIn K (.ref C) "__init__" = some (some (.ref fI)) ∧ PySem.W.typeIn K (.ref fI) = some (.type "function") ∧ FnOk P w K mg base CX0 1 fI fd ["self", "line"] (sp_pe_init C) ∧ Binds K fd ["self", "line"] []
  mgC : mg "ParseError" = some (.ref C)
theorem pmk_pe {X : Cx} {C : Addr} {j : Nat} {e : Expr} {es : List Expr} {ta : TA} {p pos : Pos} (c : PeC X.prog X.w X.K X.mg X.base C) (hr : Room j X.A) (hg : Gl X "ParseError") (ha : PA X (e :: es) ta) (hj : 2 ≤ j := by decide)
    (he : starEach (e :: es) X.env = (false, eval e X.env) :: starEach es X.env := by rfl) (hpl : (backTo pos (starEach es X.env)).any (·.1) = false := by rfl) : PMk X (.Call (.Name "ParseError" p) (e :: es) [] pos) (tMkO C (sp_pe_init C) [] ta) := by
  obtain ⟨fI, fd, iC, tI, F, b⟩ := c.ex
  exact pmk_oex c.T iC tI F (hr.mono hj) b .nil (fun _ _ _ _ _ _ _ h => h.elim) hg c.mgC ha (by decide) he hpl
end Af

set_option Elab.async false
set_option linter.all false
set_option maxRecDepth 100000
namespace Af
open PySem L2 TL
/-! numbers, lines and texts of plans -/
def numS (i : Int) : Str := (toString i : String)
def lineS (w : Str) (ns : List Int) : Str := Txt.join " " (w :: ns.map numS)
def stepS : Option (Int × List Int) → Str
  | none => "barrier"
  | some (f, ws) => lineS "write" (f :: ws)
def linesS (w : Int) (cs : List Int) (sts : List (Option (Int × List Int))) : List Str := lineS "plan" [w] :: lineS "base" cs :: sts.map stepS
def textS (w : Int) (cs : List Int) (sts : List (Option (Int × List Int))) : Str := Txt.join "\n" (linesS w cs sts)
theorem tl_numS (n : Nat) : tl (numS (n : Int)) = numL n := tl_num n
theorem tl_inj {a b : Str} (h : tl a = tl b) : a = b := ext_tl h
theorem tl_blank : tl (" " : Str) = [32] := by decide +kernel
theorem tl_break : tl ("\n" : Str) = [10] := by decide +kernel
theorem tl_joinT (y : Str) (ps : List Str) : tl (Txt.join y ps) = joinL (tl y) (ps.map tl) := by rw [join_eq, tl_join]
/-- the plan's line is made with a sign of + -/
theorem plan_line (w : Int) : ("plan " : Str) ++ numS w = lineS "plan" [w] := by
  refine tl_inj ?_
  unfold lineS
  rw [tl_append, tl_joinT, tl_blank]
  show tl ("plan " : Str) ++ tl (numS w) = tl ("plan" : Str) ++ ([32] ++ tl (numS w))
  rw [← List.append_assoc]
  congr 1
theorem num_free {i : Int} (h : 0 ≤ i) {s : Nat} (hs : s < 48 ∨ 57 < s) : s ∉ tl (numS i) := by
  obtain ⟨n, rfl⟩ := Int.eq_ofNat_of_zero_le h
  rw [tl_numS]
  exact numL_free hs
theorem joinL_mem {S : List Nat} {c : Nat} : ∀ {ps : List (List Nat)}, c ∈ joinL S ps → c ∈ S ∨ ∃ p ∈ ps, c ∈ p
  | [], h => by cases h
  | [p], h => .inr ⟨p, List.mem_cons_self, h⟩
  | p :: q :: r, h => by
    have h' : c ∈ p ++ (S ++ joinL S (q :: r)) := h
    rcases List.mem_append.mp h' with h | h
    · exact .inr ⟨p, List.mem_cons_self, h⟩
    · rcases List.mem_append.mp h with h | h
      · exact .inl h
      · rcases joinL_mem h with h | ⟨p', h1, h2⟩
        · exact .inl h
        · exact .inr ⟨p', List.mem_cons_of_mem _ h1, h2⟩
theorem line_split {w : Str} {ns : List Int} (hw : 32 ∉ tl w) (hn : ∀ z ∈ ns, 0 ≤ z) : Txt.split (lineS w ns) " " = w :: ns.map numS := by
  refine split_join (s := 32) (S := []) tl_blank (by decide +kernel) (by simp) fun p hp => ?_
  rcases List.mem_cons.mp hp with rfl | hp
  · exact hw
  · obtain ⟨z, hz, rfl⟩ := List.mem_map.mp hp
    exact num_free (hn z hz) (.inl (by decide))
theorem line_free {w : Str} {ns : List Int} (hw : 10 ∉ tl w) (hn : ∀ z ∈ ns, 0 ≤ z) : 10 ∉ tl (lineS w ns) := by
  unfold lineS
  rw [tl_joinT, tl_blank]
  intro h
  rcases joinL_mem h with h | ⟨p, hp, h2⟩
  · simp at h
  · obtain ⟨q, hq, rfl⟩ := List.mem_map.mp hp
    rcases List.mem_cons.mp hq with e | hq
    · rw [e] at h2
      exact hw h2
    · obtain ⟨z, hz, rfl⟩ := List.mem_map.mp hq
      exact num_free (hn z hz) (.inl (by decide)) h2
def StepG : Option (Int × List Int) → Prop
  | none => True
  | some (f, ws) => (0 ≤ f ∧ f < 100) ∧ ws.length ≤ 30 ∧ ∀ z ∈ ws, 0 ≤ z ∧ z < 100
structure TextG (w : Int) (cs : List Int) (sts : List (Option (Int × List Int))) : Prop where
  w0 : 0 ≤ w
  w1 : w < 100
  cl : cs.length ≤ 30
  cb : ∀ z ∈ cs, 0 ≤ z ∧ z < 100
  sl : sts.length ≤ 40
  st : ∀ x ∈ sts, StepG x
theorem step_free {x : Option (Int × List Int)} (h : StepG x) : 10 ∉ tl (stepS x) := by
  cases x with
  | none => decide +kernel
  | some fw =>
    obtain ⟨f, ws⟩ := fw
    obtain ⟨h1, _, h2⟩ := h
    refine line_free (by decide +kernel) fun z hz => ?_
    rcases List.mem_cons.mp hz with rfl | hz
    · exact h1.1
    · exact (h2 z hz).1
theorem text_split {w : Int} {cs : List Int} {sts : List (Option (Int × List Int))} (g : TextG w cs sts) : Txt.split (textS w cs sts) "\n" = linesS w cs sts := by
  refine split_join (s := 10) (S := []) tl_break (by decide +kernel) (by simp [linesS]) fun p hp => ?_
  unfold linesS at hp
  rcases List.mem_cons.mp hp with rfl | hp
  · exact line_free (by decide +kernel) fun z hz => by rw [List.mem_singleton.mp hz]; exact g.w0
  rcases List.mem_cons.mp hp with rfl | hp
  · exact line_free (by decide +kernel) fun z hz => (g.cb z hz).1
  · obtain ⟨x, hx, rfl⟩ := List.mem_map.mp hp
    exact step_free (g.st x hx)
/-! lengths -/
theorem num_len {i : Int} (h0 : 0 ≤ i) (h1 : i < 100) : (numS i).length ≤ 2 := by
  obtain ⟨n, rfl⟩ := Int.eq_ofNat_of_zero_le h0
  rw [len_tl, tl_numS]
  exact numL_len (k := 2) (by decide) (by omega)
theorem joinL_len {S : List Nat} {k : Nat} : ∀ {ps : List (List Nat)}, (∀ p ∈ ps, p.length + S.length ≤ k) → (joinL S ps).length ≤ k * ps.length
  | [], _ => Nat.zero_le _
  | [p], h => by
    have := h p List.mem_cons_self
    show p.length ≤ k * 1
    omega
  | p :: q :: r, h => by
    have h1 := h p List.mem_cons_self
    have h2 := joinL_len (S := S) (ps := q :: r) fun z hz => h z (List.mem_cons_of_mem _ hz)
    show (p ++ (S ++ joinL S (q :: r))).length ≤ k * (r.length + 1 + 1)
    rw [List.length_append, List.length_append]
    have e : k * (r.length + 1 + 1) = k * (r.length + 1) + k := Nat.mul_succ _ _
    have h2' : (joinL S (q :: r)).length ≤ k * (r.length + 1) := h2
    omega
theorem line_len {w : Str} {ns : List Int} (hw : w.length ≤ 7) (hl : ns.length ≤ 31) (hn : ∀ z ∈ ns, 0 ≤ z ∧ z < 100) : (lineS w ns).length ≤ 300 := by
  unfold lineS
  rw [len_tl, tl_joinT, tl_blank]
  refine Nat.le_trans (joinL_len (k := 8) fun p hp => ?_) ?_
  · obtain ⟨q, hq, rfl⟩ := List.mem_map.mp hp
    rw [← len_tl]
    rcases List.mem_cons.mp hq with rfl | hq
    · show q.length + 1 ≤ 8
      omega
    · obtain ⟨z, hz, rfl⟩ := List.mem_map.mp hq
      have := num_len (hn z hz).1 (hn z hz).2
      show (numS z).length + 1 ≤ 8
      omega
  · rw [List.length_map, List.length_cons, List.length_map]
    omega
theorem step_len {x : Option (Int × List Int)} (h : StepG x) : (stepS x).length ≤ 300 := by
  cases x with
  | none => decide +kernel
  | some fw =>
    obtain ⟨f, ws⟩ := fw
    obtain ⟨h1, hl, h2⟩ := h
    refine line_len (by decide +kernel) (by rw [List.length_cons]; omega) fun z hz => ?_
    rcases List.mem_cons.mp hz with rfl | hz
    · exact h1
    · exact h2 z hz
theorem lines_len {w : Int} {cs : List Int} {sts : List (Option (Int × List Int))} (g : TextG w cs sts) : ∀ p ∈ linesS w cs sts, p.length ≤ 300 := fun p hp => by
  unfold linesS at hp
  rcases List.mem_cons.mp hp with rfl | hp
  · exact line_len (by decide +kernel) (by simp) fun z hz => by rw [List.mem_singleton.mp hz]; exact ⟨g.w0, g.w1⟩
  rcases List.mem_cons.mp hp with rfl | hp
  · exact line_len (by decide +kernel) (by have := g.cl; omega) fun z hz => g.cb z hz
  · obtain ⟨x, hx, rfl⟩ := List.mem_map.mp hp
    exact step_len (g.st x hx)
theorem sum_leS {k : Nat} : ∀ {l : List Nat}, (∀ x ∈ l, x ≤ k) → l.sum ≤ k * l.length
  | [], _ => Nat.zero_le _
  | a :: l, h => by
    have h1 := h a List.mem_cons_self
    have h2 := sum_leS (l := l) fun x hx => h x (List.mem_cons_of_mem _ hx)
    rw [List.sum_cons, List.length_cons, Nat.mul_succ]
    omega
theorem sum_lens {k m : Nat} {ps : List Str} (h : ∀ p ∈ ps, p.length ≤ k) (hm : ps.length ≤ m) (hk : k * m ≤ 100000) (hl : m ≤ 10000) {y : Str} (hy : y.length ≤ 1) : (ps.map (·.length)).sum + ps.length * y.length ≤ 16777216 := by
  have h1 : (ps.map (·.length)).sum ≤ k * (ps.map (·.length)).length := sum_leS fun x hx => by
    obtain ⟨p, hp, rfl⟩ := List.mem_map.mp hx
    exact h p hp
  rw [List.length_map] at h1
  have h2 : k * ps.length ≤ k * m := Nat.mul_le_mul_left _ hm
  have h3 : ps.length * y.length ≤ ps.length * 1 := Nat.mul_le_mul_left _ hy
  omega
theorem text_len {w : Int} {cs : List Int} {sts : List (Option (Int × List Int))} (g : TextG w cs sts) : (textS w cs sts).length ≤ 15000 := by
  unfold textS
  rw [len_tl, tl_joinT, tl_break]
  refine Nat.le_trans (joinL_len (k := 301) fun p hp => ?_) ?_
  · obtain ⟨q, hq, rfl⟩ := List.mem_map.mp hp
    rw [← len_tl]
    have := lines_len g q hq
    show q.length + 1 ≤ 301
    omega
  · have := g.sl
    rw [List.length_map]
    unfold linesS
    rw [List.length_cons, List.length_cons, List.length_map]
    omega
/-! a number's signs -/
theorem num_signs {i : Int} (h0 : 0 ≤ i) (h1 : i < 100) : ∃ c r, tl (numS i) = c :: r ∧ r.length ≤ 1 ∧ (∀ x ∈ c :: r, 48 ≤ x ∧ x ≤ 57) ∧ (c = 48 → i = 0) := by
  obtain ⟨n, rfl⟩ := Int.eq_ofNat_of_zero_le h0
  rw [tl_numS]
  by_cases h : n < 10
  · refine ⟨48 + n, [], numL_lt h, Nat.zero_le _, fun x hx => ?_, fun e => by omega⟩
    rw [List.mem_singleton.mp hx]
    omega
  · have e := numL_step (n := n) (by omega)
    rw [numL_lt (by omega : n / 10 < 10)] at e
    refine ⟨48 + n / 10, [48 + n % 10], e, Nat.le_refl _, fun x hx => ?_, fun e => by omega⟩
    simp only [List.mem_cons, List.not_mem_nil, or_false] at hx
    rcases hx with rfl | rfl <;> omega
theorem num_zero {i : Int} (h : i = 0) : numS i = "0" := by
  subst h
  decide +kernel
theorem not_barrier {f : Int} {ws : List Int} : stepS (some (f, ws)) ≠ "barrier" := fun e => by
  have e1 := congrArg tl e
  have e2 : tl (stepS (some (f, ws))) = joinL [32] (tl ("write" : Str) :: (f :: ws).map fun z => tl (numS z)) := by
    show tl (Txt.join " " _) = _
    rw [tl_joinT, tl_blank, List.map_cons, List.map_map]
    rfl
  rw [e2] at e1
  have e3 : tl ("write" : Str) = [119, 114, 105, 116, 101] := by decide +kernel
  have e4 : tl ("barrier" : Str) = [98, 97, 114, 114, 105, 101, 114] := by decide +kernel
  rw [e3, e4] at e1
  have e5 : ∀ l, joinL [32] ([119, 114, 105, 116, 101] :: l) ≠ [98, 97, 114, 114, 105, 101, 114] := fun l => by
    cases l with
    | nil => decide
    | cons a l =>
      show [119, 114, 105, 116, 101] ++ _ ≠ _
      simp
  exact e5 _ e1
end Af

set_option Elab.async false
set_option linter.all false
set_option maxRecDepth 100000
set_option maxHeartbeats 4000000
namespace Af
open PySem L2
abbrev s_ParseError___init : Stmt := inClass (top 3) 0
theorem nsc_pe : NdefX.NScope ["self", "line", "__class__"] ["self", "line"] ["__class__"] (defScope s_ParseError___init) := NdefX.nscope_by (by decide +kernel)
theorem num_len5 {i : Int} (h0 : 0 ≤ i) (h1 : i < 100000) : (numS i).length ≤ 5 := by
  obtain ⟨n, rfl⟩ := Int.eq_ofNat_of_zero_le h0
  rw [TL.len_tl, tl_numS]
  exact TL.numL_len (k := 5) (by decide) (by omega)
section
variable {P : Program} {w : World} {K : PySem.W.Frag} {mg : Str → Option Value} {base : Heap}
theorem ok_pe_init {f C cc cda : Addr} {dV kV doc pm ct oc : Value} {an od : Option Addr} {osl : Array (Option Value)} (T : OexC K C) (U : SupC P K mg C cc cda) (no : PySem.W.findIn K (.ref C) "line" = some none)
    (lk : K.lookup f = some ⟨oc, od, .func (PySem.W.fnX "__init__" "ParseError.__init__" (defArgs s_ParseError___init) (defBody s_ParseError___init) (defScope s_ParseError___init) [("__class__", cc)] dV kV doc pm an (.ref cda) ct), osl⟩)
    (hcd : PySem.W.codeIn K (.ref cda) "ParseError.__init__" = true) :
    FnOk P w K mg base CX0 1 f (PySem.W.fnX "__init__" "ParseError.__init__" (defArgs s_ParseError___init) (defBody s_ParseError___init) (defScope s_ParseError___init) [("__class__", cc)] dV kV doc pm an (.ref cda) ct) ["self", "line"] (sp_pe_init C) := by
  refine fn_sup T U lk hcd nsc_pe rfl rfl (fun vs H Q E h => ?_) (fun _ => rfl) (fun _ => rfl) (fun _ => rfl) (fun A outer s H vs Q E hr h => ?_)
  · obtain ⟨_, _, rfl, _⟩ := h
    rfl
  obtain ⟨a, n, rfl, ha, n0, n1, k⟩ := h
  refine ⟨a, _, _, _, rfl, ha, (pe_joined (.cons pe_str (.cons (pe_fmt (pv 1)) (.cons pe_str .nil)))), (pss_one (ps_ost (pv 0) (pv 1))), ?_⟩
  have l3 := num_len5 n0 n1
  have e1 : ("line " : Str).length = 5 := by decide +kernel
  have e2 : (" is wrong or missing" : Str).length = 20 := by decide +kernel
  have e3 : (Str.empty ++ ("line " : Str) : Str).length = 5 := by decide +kernel
  have lg : n.natAbs.log2 < 1920 := by
    by_cases z : n.natAbs = 0
    · rw [z]; decide
    · exact (Nat.log2_lt z).mpr (Nat.lt_trans (show n.natAbs < 2 ^ 20 by omega) (Nat.pow_lt_pow_right (by decide) (by decide)))
  refine ⟨_, rfl, by rw [e3]; exact sz (by decide), _, rfl, .inr ⟨_, rfl, lg, _, rfl, ?_, _, rfl, ?_, by simp, ha, ?_⟩⟩
  · exact sz (Nat.le_trans (PySem.W.KT.len_app (A := 5) (B := 5) (by rw [e3]; decide) l3) (by decide))
  · exact sz (Nat.le_trans (PySem.W.KT.len_app (A := 10) (B := 20) (PySem.W.KT.len_app (A := 5) (B := 5) (by rw [e3]; decide) l3) (by rw [e2]; decide)) (by decide))
  · exact ⟨_, rfl, _, rfl, a, C, rfl, T, no, .inl ⟨ha, k⟩⟩
end
end Af

set_option Elab.async false
set_option linter.all false
set_option maxRecDepth 100000
namespace Af
open PySem L2 TL
/-! words, lines and texts of any kind -/
def digB (c : Nat) : Bool := decide (48 ≤ c) && decide (c ≤ 57)
/-- number_in -/
def numB (w : Str) : Int := match tl w with
  | [c] => if digB c = true then ((c - 48 : Nat) : Int) else -1
  | [c, d] => if (digB c && digB d && decide (c ≠ 48)) = true then (((c - 48) * 10 + (d - 48) : Nat) : Int) else -1
  | _ => -1
theorem dig_ex {c : Nat} (h : digB c = true) : ∃ e, e < 10 ∧ c = e + 48 := by
  unfold digB at h
  rw [Bool.and_eq_true] at h
  have := of_decide_eq_true h.1
  have := of_decide_eq_true h.2
  exact ⟨c - 48, by omega, by omega⟩
theorem numL1 : ∀ e, e < 10 → numL e = [e + 48] := by decide +kernel
theorem numL2 : ∀ e, e < 10 → ∀ g, g < 10 → e ≠ 0 → numL (e * 10 + g) = [e + 48, g + 48] := by decide +kernel
theorem int1 : ∀ e, e < 10 → PySem.intText? ⟨#[e + 48]⟩ = some (e : Int) := by decide +kernel
theorem int2 : ∀ e, e < 10 → ∀ g, g < 10 → PySem.intText? ⟨#[e + 48, g + 48]⟩ = some ((e * 10 + g : Nat) : Int) := by decide +kernel
theorem of_tl {w : Str} {l : List Nat} (h : tl w = l) : w = ⟨l.toArray⟩ := tl_inj (by rw [h])

inductive NumK (w : Str) : Prop
  | none (h : tl w = []) (e : numB w = -1)
  | long (h : 2 < (tl w).length) (e : numB w = -1)
  | sign (h : 0 < (tl w).length) (h' : (tl w).length ≤ 2) (a : (tl w).all digB = false) (e : numB w = -1)
  | lead (d : Nat) (h : tl w = [48, d]) (a : (tl w).all digB = true) (e : numB w = -1) (z : ∃ n, PySem.intText? w = some n ∧ 0 ≤ n ∧ n < 10 ∧ w ≠ numS n)
  | good (c : Nat) (r : List Nat) (h : tl w = c :: r) (h' : r.length ≤ 1) (a : (tl w).all digB = true) (z : ¬ (c = 48 ∧ r ≠ [])) (l : 0 ≤ numB w) (u : numB w < 100) (i : PySem.intText? w = some (numB w)) (s : w = numS (numB w))
theorem numK (w : Str) : NumK w := by
  cases h : tl w with
  | nil => exact .none h (by unfold numB; rw [h])
  | cons c r =>
    cases r with
    | nil =>
      by_cases d : digB c = true
      · obtain ⟨e, he, rfl⟩ := dig_ex d
        have nb : numB w = (e : Int) := by unfold numB; rw [h]; show (if digB (e + 48) = true then _ else _) = _; rw [if_pos d]; omega
        refine .good _ _ h (by simp) (by rw [h]; simp [d]) (by simp) (by omega) (by omega) ?_ ?_
        · rw [nb, of_tl h]; exact int1 e he
        · rw [nb]; exact tl_inj (by rw [h, tl_numS, numL1 e he])
      · have d' : digB c = false := by simpa using d
        exact .sign (by rw [h]; simp) (by rw [h]; simp) (by rw [h]; simp [d']) (by unfold numB; rw [h]; show (if digB c = true then _ else _) = _; rw [if_neg d])
    | cons d r =>
      cases r with
      | nil =>
        by_cases dc : digB c = true ∧ digB d = true
        · obtain ⟨e, he, rfl⟩ := dig_ex dc.1
          obtain ⟨g, hg, rfl⟩ := dig_ex dc.2
          have al : (tl w).all digB = true := by rw [h]; simp [dc.1, dc.2]
          have it : PySem.intText? w = some ((e * 10 + g : Nat) : Int) := by rw [of_tl h]; exact int2 e he g hg
          by_cases z : e = 0
          · subst z
            refine .lead _ h al (by unfold numB; rw [h]; simp) ⟨_, it, by omega, by omega, fun q => ?_⟩
            have := congrArg tl q
            rw [h, tl_numS, show 0 * 10 + g = g by omega, numL1 g hg] at this
            cases this
          · have nb : numB w = ((e * 10 + g : Nat) : Int) := by
              unfold numB
              rw [h]
              show (if (digB (e + 48) && digB (g + 48) && decide (e + 48 ≠ 48)) = true then _ else _) = _
              rw [if_pos (by rw [dc.1, dc.2, decide_eq_true (by omega)]; rfl)]
              congr 1
            refine .good _ _ h (by simp) al (fun q => z (by omega)) (by rw [nb]; omega) (by rw [nb]; omega) (by rw [nb]; exact it) ?_
            rw [nb]
            exact tl_inj (by rw [h, tl_numS, numL2 e he g hg z])
        · have al : (tl w).all digB = false := by
            rw [h]
            cases q : ([c, d] : List Nat).all digB with
            | false => rfl
            | true =>
              simp only [List.all_cons, List.all_nil, Bool.and_true, Bool.and_eq_true] at q
              exact absurd q dc
          refine .sign (by rw [h]; simp) (by rw [h]; simp) al ?_
          unfold numB
          rw [h]
          show (if (digB c && digB d && decide (c ≠ 48)) = true then _ else _) = _
          rw [if_neg]
          intro q
          rw [Bool.and_eq_true, Bool.and_eq_true] at q
          exact dc q.1
      | cons e r => exact .long (by rw [h]; simp) (by unfold numB; rw [h])
/-- the numbers behind a word -/
def numsL (wd : Str) : List Str → List Int
  | w0 :: r => if w0 = wd then r.map numB else []
  | [] => []
def numsB (wd line : Str) : List Int := numsL wd (Txt.split line " ")
theorem numB_bd (w : Str) : -1 ≤ numB w ∧ numB w < 100 := by
  cases numK w with
  | none _ e => omega
  | long _ e => omega
  | sign _ _ _ e => omega
  | lead _ _ _ e _ => omega
  | good _ _ _ _ _ _ l u _ _ => omega
/-- what a line says: a barrier, or numbers (none: not a step) -/
def lineD (line : Str) : Option (List Int) := if line = "barrier" then none else some (numsB "write" line)
def lnD : Option (List Int) → PyData
  | none => .none
  | some [] => .tuple []
  | some (f :: r) => .tuple [.int f, .tuple (dvs r)]
def okS (m : Int) (d : Option (List Int)) : Bool := stepQ m (lnD d)
def stOf : Option (List Int) → Option (Int × List Int)
  | some (f :: r) => some (f, r)
  | _ => none
def widthI (line : Str) : Int := match numsB "plan" line with
  | [z] => z
  | _ => -1
end Af

set_option Elab.async false
set_option linter.all false
set_option maxRecDepth 100000
set_option maxHeartbeats 4000000
namespace Af
open PySem L2
abbrev s_number_in : Stmt := top 32
abbrev N_number_in : List Str := ["word", "sign"]
theorem sc_number_in : FnScope N_number_in ["word"] (defScope s_number_in) := ⟨rfl, rfl, rfl, by decide +kernel, rfl, by decide +kernel, by decide +kernel⟩

abbrev s_numbers_behind : Stmt := top 31
abbrev N_numbers_behind : List Str := ["word", "line", "words", "other"]
theorem sc_numbers_behind : FnScope N_numbers_behind ["word", "line"] (defScope s_numbers_behind) := ⟨rfl, rfl, rfl, by decide +kernel, rfl, by decide +kernel, by decide +kernel⟩

abbrev s_width_in : Stmt := top 29
abbrev N_width_in : List Str := ["line", "numbers"]
theorem sc_width_in : FnScope N_width_in ["line"] (defScope s_width_in) := ⟨rfl, rfl, rfl, by decide +kernel, rfl, by decide +kernel, by decide +kernel⟩

abbrev s_step_in : Stmt := top 30
abbrev N_step_in : List Str := ["line", "numbers"]
theorem sc_step_in : FnScope N_step_in ["line"] (defScope s_step_in) := ⟨rfl, rfl, rfl, by decide +kernel, rfl, by decide +kernel, by decide +kernel⟩

theorem figs : TL.tl ("0123456789" : Str) = [48, 49, 50, 51, 52, 53, 54, 55, 56, 57] := by decide +kernel
theorem dec_figs (c : Nat) : decide (c ∈ ("0123456789" : Str).cps.toList) = digB c := by
  have e' : ("0123456789" : Str).cps.toList = [48, 49, 50, 51, 52, 53, 54, 55, 56, 57] := figs
  rw [e']
  unfold digB
  rw [← Bool.decide_and]
  refine decide_eq_decide.mpr ?_
  simp only [List.mem_cons, List.not_mem_nil, or_false]
  omega
def svs (ps : List Str) : List V := ps.map V.str
theorem svs_app (a b : List Str) : svs (a ++ b) = svs a ++ svs b := List.map_append
theorem svs_len (a : List Str) : (svs a).length = a.length := List.length_map _
theorem cut_from1 {v : V} {xs : List V} : cutV (v :: xs) (some 1) none = xs := by
  unfold cutV
  have e1 : HT.sIx (v :: xs).length 0 (some 1) = 1 := by
    unfold HT.sIx
    simp
  have e2 : HT.sIx (v :: xs).length (v :: xs).length none = (v :: xs).length := rfl
  rw [e1, e2]
  simp
theorem iteT' {b : Bool} {p q : Prop} (h : b = true) (x : p) : if b = true then p else q := by rw [if_pos h]; exact x
structure NumC (mg : Str → Option Value) : Prop where
  figs : ∃ t, mg "FIGURES" = some (.str "0123456789" t)
  most : ∃ t, mg "MOST_FIGURES" = some (.int 2 t)
def sp_number : Sp := fun vs H Q _ => ∃ (w : Str), vs = [.str w] ∧ w.length ≤ 100000 ∧ ∀ H', Same H H' → Q (.int (numB w)) H'
section
variable {P : Program} {w : World} {K : PySem.W.Frag} {mg : Str → Option Value} {base : Heap}
theorem ok_number_in {f : Addr} {fd : FuncData} (F : Fun K "number_in" "number_in" s_number_in f fd) (T : Txt mg) (NC : NumC mg) : FnOk P w K mg base CX0 1 f fd ["word"] sp_number := by
  obtain ⟨tk1, c_FIGURES⟩ := NC.figs
  obtain ⟨tk2, c_MOST_FIGURES⟩ := NC.most
  refine F.ok sc_number_in (fun vs H Q E h => ?_) (fun cdv A outer s H vs Q E hr h => ?_)
  · obtain ⟨_, rfl, _⟩ := h
    rfl
  obtain ⟨wd, rfl, lw, k⟩ := h
  have lz : wd.length ≤ sizeLine := sz (by omega)
  have ltl : wd.length = (TL.tl wd).length := TL.len_tl _
  refine ⟨_, (pss_cons (ps_cut (ps_if (PW.pt (pw_or (pt_not (pt_truth (pv 0) (by intro _; rfl))) (pw_or (pt_cmpR op_gt (pe_callB call_len_str (by rfl) T.len (by decide +kernel) (pa_cons (pv 0) pa_nil)) (pe_glob (v := .int 2) rfl c_MOST_FIGURES ⟨_, rfl⟩) (nomark _)) (pw_or1 (pt_not (pt_val (pe_callB (cr_all rfl) (by rfl) T.all (by decide +kernel) (pa_cons (pe_lc (own := [("sign", 1)]) (g := (gName 1)) (tt := tYes) rfl sc_number_in.nd (pi_str (pv 0)) (blkOk_by (own := [("sign", 1)]) (N := N_number_in) (sc := defScope s_number_in) (by decide +kernel)) (fun _ _ _ _ _ => pg_name (i := 1) sc_number_in.nd rfl (Or.inl rfl)) (fun _ _ _ _ _ => pts_nil) (fun _ _ _ _ _ => (pe_cmpR op_in_sign (pv 1) (pe_glob (v := .str "0123456789") rfl c_FIGURES ⟨_, rfl⟩) (by rfl)))) pa_nil))))))))
      (pss_one (ps_ret (pe_un un_neg pe_int)))
      pss_nil))
    (pss_cons (ps_cut (ps_if (PW.pt (pw_and (pt_cmpR op_eq (pe_ix ix_str (pv 0) pe_int (fun _ _ => rfl)) pe_str (nomark _)) (pw_and1 (pt_cmpR op_ne (pv 0) pe_str (nomark _)))))
      (pss_one (ps_ret (pe_un un_neg pe_int)))
      pss_nil))
    (pss_one (ps_ret (pe_callTy call_int_str (by rfl) T.int (by decide +kernel) (pa_cons (pv 0) pa_nil)))))), ?_⟩
  refine ⟨fun σ' H' => σ' = [some (.str wd), none] ∧ Same H H' ∧ ∃ c r, TL.tl wd = c :: r ∧ r.length ≤ 1 ∧ (TL.tl wd).all digB = true, ?_, ?_⟩
  · have kneg : ∀ H', Same H H' → numB wd = -1 → Q (.int (-1)) H' := fun H' s' e => by
      have := k H' s'
      rw [e] at this
      exact this
    cases htl : TL.tl wd with
    | nil =>
      rw [htl] at ltl
      have n0 : numB wd = -1 := by unfold numB; rw [htl]
      exact ⟨_, rfl, false, ⟨lz, by rw [ltl]; rfl⟩, iteT ⟨_, rfl, kneg H (Same.refl _) n0⟩⟩
    | cons c r =>
      have ln : wd.length = r.length + 1 := by rw [ltl, htl]; rfl
      refine ⟨_, rfl, true, ⟨lz, by rw [ln]; rfl⟩, ?_⟩
      refine iteF ⟨_, rfl, _, rfl, lz, _, _, rfl, rfl, _, rfl, ?_⟩
      refine ite2 (fun y => ?_) (fun y => ?_)
      · have := of_decide_eq_true y
        refine ⟨_, rfl, kneg H (Same.refl _) ?_⟩
        cases numK wd with
        | none _ e => exact e
        | long _ e => exact e
        | sign _ _ _ e => exact e
        | lead _ _ _ e _ => exact e
        | good c' r' h h' _ _ _ _ _ _ =>
          rw [h] at htl
          cases htl
          omega
      have rl : r.length ≤ 1 := by
        by_cases z : r.length ≤ 1
        · exact z
        · exact absurd (decide_eq_true (by rw [ln]; omega)) y
      refine ⟨_, rfl, _, rfl, fun D hD => lc_it (walk_str (z := wd)) (fun j H' => Same H H' ∧ H' D = some (.lst ((((TL.tl wd).take j).map digB).map .bl))) ?_ (fun _ _ _ _ => trivial) ?_ ?_⟩
      · exact ⟨same_new hD, upd_same⟩
      · rintro j x H1 H2 hj ⟨s2, h2⟩ ⟨rfl, d, hd, rfl⟩
        have e : (TL.tl wd)[j]? = some d := by
          have e : wd.cps.toList[j]? = some d := by rw [Array.getElem?_toList]; exact hd
          exact e
        refine ⟨rfl, _, rfl, d, _, rfl, rfl, _, h2, szl (by rw [List.length_map, List.length_map, List.length_take]; have : wd.cps.size = wd.length := rfl; omega), same_mut s2 hD, ?_⟩
        rw [upd_same, List.take_add_one, e, List.map_append, List.map_append, dec_figs]
        rfl
      · rintro H2 ⟨s2, h2⟩
        have zs : wd.cps.size = (TL.tl wd).length := ltl
        rw [zs, List.take_length] at h2
        refine ⟨D, (TL.tl wd).map digB, rfl, SqL.of h2, ?_⟩
        have e : ((TL.tl wd).map digB).all id = (TL.tl wd).all digB := by rw [List.all_map]; rfl
        rw [e, ← htl]
        cases al : (TL.tl wd).all digB with
        | true => exact ⟨_, rfl, iteF ⟨rfl, s2, c, r, htl, rl, rfl⟩⟩
        | false =>
          refine ⟨_, rfl, iteT ⟨_, rfl, kneg H2 s2 ?_⟩⟩
          cases numK wd with
          | none _ e => exact e
          | long _ e => exact e
          | sign _ _ _ e => exact e
          | lead _ _ _ e _ => exact e
          | good _ _ _ _ a _ _ _ _ _ => rw [a] at al; cases al
  rintro _ H2 ⟨rfl, s2, c, r, htl, hr', al⟩
  have ln : wd.length = r.length + 1 := by rw [ltl, htl]; rfl
  have at0 : atI wd.cps.toList 0 = some c := by
    have e : wd.cps.toList = c :: r := htl
    rw [e]
    exact atI_nat (j := 0) rfl
  have z48 : TL.tl ("0" : Str) = [48] := by decide +kernel
  refine ⟨fun σ' H' => σ' = [some (.str wd), none] ∧ Same H H' ∧ PySem.intText? wd = some (numB wd), ?_, ?_⟩
  · refine ⟨_, rfl, _, _, c, rfl, rfl, lz, at0, rfl, _, rfl, ite2 (fun y => ?_) (fun y => ?_)⟩
    · have e1 : (⟨#[c]⟩ : Str) = "0" := V.str.inj (of_decide_eq_true y)
      have e2 : c = 48 := by
        have := congrArg TL.tl e1
        rw [z48] at this
        exact (List.cons.inj this).1
      subst e2
      refine ⟨_, rfl, rfl, _, rfl, ?_⟩
      cases numK wd with
      | none h _ => rw [h] at htl; cases htl
      | long h _ => rw [htl] at h; simp at h; omega
      | sign _ _ a _ => rw [a] at al; cases al
      | lead d h _ e _ =>
        rw [decide_eq_false (fun z : V.str wd = V.str "0" => by
          have := congrArg TL.tl (V.str.inj z)
          rw [h, z48] at this
          cases this)]
        have kk := k H2 s2
        rw [e] at kk
        exact iteT ⟨_, rfl, kk⟩
      | good c' r' h h' _ z _ _ i s =>
        have hr0 : r = [] := by
          rw [h] at htl
          cases htl
          exact Classical.byContradiction fun q => z ⟨rfl, q⟩
        rw [decide_eq_true (show V.str wd = V.str "0" from congrArg V.str (TL.ext_tl (by rw [htl, z48, hr0])))]
        exact iteF ⟨rfl, s2, i⟩
    · refine iteF ⟨rfl, s2, ?_⟩
      cases numK wd with
      | none h _ => rw [h] at htl; cases htl
      | long h _ => rw [htl] at h; simp at h; omega
      | sign _ _ a _ => rw [a] at al; cases al
      | lead d h _ e _ =>
        rw [h] at htl
        cases htl
        exact absurd rfl y
      | good c' r' h h' _ z _ _ i s => exact i
  rintro _ H3 ⟨rfl, s3, it⟩
  exact ⟨_, rfl, _, _, rfl, it, by omega, k H3 s3⟩
theorem part_len {x y p : Str} (h : p ∈ Txt.split x y) : p.length ≤ x.length := by
  have sub : ∀ i j, (PySem.Builtin.Str.strSub x i j).length ≤ x.length := fun i j => by
    show (x.cps.extract i j).size ≤ x.cps.size
    rw [Array.size_extract]
    omega
  have pb : ∀ cuts w, p ∈ PySem.Builtin.Str.partsBetween x cuts w → p.length ≤ x.length := fun cuts w h => by
    unfold PySem.Builtin.Str.partsBetween at h
    obtain ⟨⟨i, j⟩, _, rfl⟩ := List.mem_map.mp h
    exact sub i j
  unfold Txt.split at h
  split at h
  · rw [List.mem_singleton.mp h]; exact Nat.le_refl _
  · split at h
    · rw [List.mem_singleton.mp h]; exact Nat.le_refl _
    · exact pb _ _ h
def sp_numbers : Sp := fun vs H Q _ => ∃ (wd line : Str), vs = [.str wd, .str line] ∧ line.length ≤ 50000 ∧ ∀ l H', Same H H' → H l = none → H' l = some (.lst (ivs (numsB wd line))) → Q (.ref l) H'
theorem ok_numbers_behind {f : Addr} {fd : FuncData} (F : Fun K "_numbers_behind" "_numbers_behind" s_numbers_behind f fd) (T : Txt mg) (c_number_in : Cal P w K mg base 1 "number_in" ["word"] sp_number) : FnOk P w K mg base CX0 2 f fd ["word", "line"] sp_numbers := by
  refine F.ok sc_numbers_behind (fun vs H Q E h => ?_) (fun cdv A outer s H vs Q E hr h => ?_)
  · obtain ⟨_, _, rfl, _⟩ := h
    rfl
  obtain ⟨wd, line, rfl, ll, k⟩ := h
  refine ⟨_, (pss_cons (ps_set (i := 2) sc_numbers_behind.nd rfl (Or.inl rfl) (pe_split (pv 1) pe_str))
    (pss_one (ps_ret (pe_ifExp (pt_cmpR op_eq (pe_ix ix_seq' (pv 2) pe_int (fun _ _ => rfl)) (pv 0) (nomark _)) (pe_lc (own := [("other", 3)]) (g := (gName 3)) (tt := tYes) rfl sc_numbers_behind.nd (pi_list (pe_slice sl_list' (pv 2) (po_some pe_int) po_none)) (blkOk_by (own := [("other", 3)]) (N := N_numbers_behind) (sc := defScope s_numbers_behind) (by decide +kernel)) (fun _ _ _ _ _ => pg_name (i := 3) sc_numbers_behind.nd rfl (Or.inl rfl)) (fun _ _ _ _ _ => pts_nil) (fun _ _ _ _ _ => (pe_cal c_number_in hr (pa_cons (pv 3) pa_nil)))) (pe_lst' pa_nil))))), ?_⟩
  refine ⟨_, rfl, ⟨_, rfl⟩, _, _, rfl, rfl, by decide +kernel, sz (by omega), fun p hp => ?_⟩
  have sp1 := PyProof.Rows.split_pos line " "
  have sp2 := PyProof.Rows.split_le line " "
  have pl : ∀ q ∈ Txt.split line " ", q.length ≤ line.length := fun q h => part_len h
  obtain ⟨ps, eps⟩ : ∃ ps, ps = Txt.split line " " := ⟨_, rfl⟩
  have nb : numsB wd line = numsL wd ps := by unfold numsB; rw [eps]
  rw [← eps] at sp1 sp2 pl ⊢
  cases ps with
  | nil => simp at sp1
  | cons w0 r =>
  have nb : numsB wd line = if w0 = wd then r.map numB else [] := nb
  have s1 : Same H (upd H p (.lst ((w0 :: r).map V.str))) := same_new hp
  have h1 : (upd H p (.lst ((w0 :: r).map V.str))) p = some (.lst ((w0 :: r).map V.str)) := upd_same
  generalize upd H p (.lst ((w0 :: r).map V.str)) = H1 at s1 h1
  refine ⟨_, rfl, p, _, _, .str w0, rfl, rfl, .inl h1, atI_nat (j := 0) rfl, _, rfl, rfl, _, rfl, ?_⟩
  refine ite2 (fun y => ?_) (fun y => ?_)
  · have ew : w0 = wd := V.str.inj (of_decide_eq_true y)
    rw [if_pos ew] at nb
    refine ⟨_, rfl, 1, rfl, p, _, rfl, h1, fun q H2 n2 s2 h2 => ?_⟩
    have h2' : H2 q = some (.lst (svs r)) := by
      rw [h2]
      congr 2
      exact cut_from1
    refine ⟨q, rfl, ⟨_, SqL.of h2'⟩, fun D hD => lc_list (K := K) (a := q) (xs := svs r) (fun i H' => Same H2 H' ∧ H' D = some (.lst (ivs ((r.take i).map numB)))) ?_ ?_ ?_ ?_⟩
    · exact ⟨same_new hD, upd_same⟩
    · rintro i H' _ ⟨s3, _⟩
      exact SqL.of (s3 _ _ h2')
    · rintro i y H' hx ⟨s3, h3⟩
      have il : i < r.length := by
        have := (List.getElem?_eq_some_iff.mp hx).1
        rw [svs_len] at this
        exact this
      have e : (svs r)[i]? = some (.str r[i]) := by
        unfold svs
        rw [List.getElem?_map, List.getElem?_eq_getElem il]
        rfl
      rw [e] at hx
      cases hx
      have hz := pl r[i] (List.mem_cons_of_mem _ (List.getElem_mem il))
      refine ⟨rfl, _, rfl, _, rfl, by omega, fun H4 s4 => ⟨_, s4 _ _ h3, szl (by rw [ivs_len, List.length_map, List.length_take]; rw [List.length_cons] at sp2; omega), same_mut (s3.trans s4) hD, ?_⟩⟩
      rw [upd_same, List.take_add_one, List.getElem?_eq_getElem il]
      unfold ivs
      rw [List.map_append, List.map_append]
      rfl
    · rintro H3 ⟨s3, h3⟩
      rw [svs_len, List.take_length, ← nb] at h3
      exact k D H3 (s1.trans (s2.trans s3)) (s1.free (s2.free hD)) h3
  · rw [if_neg (fun e => y (decide_eq_true (congrArg V.str e)))] at nb
    refine ⟨szr, fun D H2 nD s2 h2 => k D H2 (s1.trans s2) (s1.free nD) ?_⟩
    rw [nb]
    exact h2
end
end Af

set_option Elab.async false
set_option linter.all false
set_option maxRecDepth 100000
set_option maxHeartbeats 4000000
namespace Af
open PySem L2
def SdV (H : Hp) (v : V) : Option (List Int) → Prop
  | none => v = .non
  | some [] => ∃ a, v = .ref a ∧ H a = some (.tup [])
  | some (f :: r) => ∃ t b, v = .ref t ∧ H t = some (.tup [.int f, .ref b]) ∧ H b = some (.tup (ivs r))
theorem SdV.same {H H' : Hp} {v : V} {d : Option (List Int)} (h : SdV H v d) (s : Same H H') : SdV H' v d := by
  match d, h with
  | none, h => exact h
  | some [], ⟨a, e, ha⟩ => exact ⟨a, e, s _ _ ha⟩
  | some (f :: r), ⟨t, b, e, ht, hb⟩ => exact ⟨t, b, e, s _ _ ht, s _ _ hb⟩
theorem SdV.dq {K : PySem.W.Frag} {H : Hp} {v : V} {d : Option (List Int)} (h : SdV H v d) : Dq K H v (lnD d) := by
  match d, h with
  | none, h => rw [show v = .non from h]; exact .non
  | some [], ⟨a, e, ha⟩ => rw [e]; exact .tup ha .nil
  | some (f :: r), ⟨t, b, e, ht, hb⟩ => rw [e]; exact .tup ht (.cons (.int f) (.cons (.tup hb (dq_ints r)) .nil))
theorem SdV.th {K : PySem.W.Frag} {H : Hp} {v : V} {d : Option (List Int)} (h : SdV H v d) (l : ∀ ns, d = some ns → ns.length ≤ 100000) : Th K H 2 v := by
  match d, h with
  | none, h => rw [show v = .non from h]; exact th_non
  | some [], ⟨a, e, ha⟩ => rw [e]; exact th_tup ha (by show 0 ≤ 100000; decide) fun y hy => by cases hy
  | some (f :: r), ⟨t, b, e, ht, hb⟩ =>
    rw [e]
    refine th_tup ht (by show 2 ≤ 100000; decide) fun y hy => ?_
    have lr := l _ rfl
    rw [List.length_cons] at lr
    simp only [List.mem_cons, List.not_mem_nil, or_false] at hy
    rcases hy with rfl | rfl
    · exact th_int
    · exact th_ints hb (by omega)
theorem SdV.ok {H : Hp} {v : V} {d : Option (List Int)} {n : Nat} (h : SdV H v d) (o : okS n d = true) : StepV H v (stOf d) ∧ OkS n (stOf d) := by
  match d, h with
  | none, h => exact ⟨h, True.intro⟩
  | some [], _ => cases o
  | some (f :: r), ⟨t, b, e, ht, hb⟩ =>
    have o : (idxD (n : Nat) (.int f) && worthsD (.tuple (dvs r)) && addD (n : Nat) (lenD (.tuple (dvs r))) (.int f)) = true := o
    rw [Bool.and_eq_true, Bool.and_eq_true] at o
    obtain ⟨⟨o1, o2⟩, o3⟩ := o
    have o1 : (decide (0 ≤ f) && decide (f < (n : Nat))) = true := o1
    rw [Bool.and_eq_true] at o1
    have o2 : (!(dvs r).isEmpty && (dvs r).all (idxD 8)) = true := o2
    rw [Bool.and_eq_true] at o2
    have o3 := of_decide_eq_true (show decide (f + (((dvs r).length : Nat) : Int) ≤ (n : Nat)) = true from o3)
    have dl : (dvs r).length = r.length := List.length_map _
    rw [dl] at o3
    have bd : ∀ z ∈ r, 0 ≤ z ∧ z < 8 := fun z hz => by
      have q := List.all_eq_true.mp o2.2 (.int z) (List.mem_map_of_mem hz)
      have q : (decide (0 ≤ z) && decide (z < 8)) = true := q
      rw [Bool.and_eq_true] at q
      exact ⟨of_decide_eq_true q.1, of_decide_eq_true q.2⟩
    have ne : 1 ≤ r.length := by
      cases r with
      | nil => exact absurd o2.1 (by simp [dvs])
      | cons _ _ => simp
    exact ⟨⟨t, b, e, ht, hb⟩, of_decide_eq_true o1.1, (fun e => by rw [e] at ne; simp at ne), by omega, bd⟩
def sp_width_in : Sp := fun vs H Q _ => ∃ (line : Str), vs = [.str line] ∧ line.length ≤ 50000 ∧ ∀ H', Same H H' → Q (.int (widthI line)) H'
def sp_step_in : Sp := fun vs H Q _ => ∃ (line : Str), vs = [.str line] ∧ line.length ≤ 50000 ∧ ∀ v H', Same H H' → SdV H' v (lineD line) → Q v H'
theorem nums_len {wd line : Str} : (numsB wd line).length ≤ line.length + 2 := by
  have := PyProof.Rows.split_le line " "
  unfold numsB
  generalize Txt.split line " " = ps at this
  cases ps with
  | nil => exact Nat.zero_le _
  | cons w0 r =>
    rw [List.length_cons] at this
    show (if w0 = wd then r.map numB else []).length ≤ _
    split
    · rw [List.length_map]; omega
    · exact Nat.zero_le _
section
variable {P : Program} {w : World} {K : PySem.W.Frag} {mg : Str → Option Value} {base : Heap}
theorem ok_width_in {f : Addr} {fd : FuncData} (F : Fun K "_width_in" "_width_in" s_width_in f fd) (T : Txt mg) (c_numbers_behind : Cal P w K mg base 2 "_numbers_behind" ["word", "line"] sp_numbers) : FnOk P w K mg base CX0 3 f fd ["line"] sp_width_in := by
  refine F.ok sc_width_in (fun vs H Q E h => ?_) (fun cdv A outer s H vs Q E hr h => ?_)
  · obtain ⟨_, rfl, _⟩ := h
    rfl
  obtain ⟨line, rfl, ll, k⟩ := h
  refine ⟨_, (pss_cons (ps_set (i := 1) sc_width_in.nd rfl (Or.inl rfl) (pe_cal c_numbers_behind hr (pa_cons pe_str (pa_cons (pv 0) pa_nil))))
    (pss_one (ps_ret (pe_ifExp (pt_cmpR op_eq (pe_callB call_len' (by rfl) T.len (by decide +kernel) (pa_cons (pv 1) pa_nil)) pe_int (nomark _)) (pe_ix ix_seq' (pv 1) pe_int (fun _ _ => rfl)) (pe_un un_neg pe_int))))), ?_⟩
  refine ⟨_, rfl, _, _, rfl, ll, fun l H1 s1 n1 hl => ?_⟩
  have kk := k H1 s1
  unfold widthI at kk
  refine ⟨_, rfl, l, _, rfl, .inl hl, rfl, _, rfl, ?_⟩
  generalize numsB "plan" line = ns at hl kk
  match ns, hl, kk with
  | [], hl, kk => exact ite2 (fun y => by cases V.int.inj (of_decide_eq_true y)) fun _ => ⟨_, rfl, kk⟩
  | [z], hl, kk => exact iteT' (by rfl) ⟨_, rfl, l, _, _, .int z, rfl, rfl, .inl hl, atI_nat (j := 0) rfl, kk⟩
  | _ :: _ :: _, hl, kk => exact ite2 (fun y => by have := V.int.inj (of_decide_eq_true y); simp [ivs] at this; omega) fun _ => ⟨_, rfl, kk⟩
theorem ok_step_in {f : Addr} {fd : FuncData} (F : Fun K "_step_in" "_step_in" s_step_in f fd) (T : Txt mg) (c_numbers_behind : Cal P w K mg base 2 "_numbers_behind" ["word", "line"] sp_numbers) : FnOk P w K mg base CX0 3 f fd ["line"] sp_step_in := by
  refine F.ok sc_step_in (fun vs H Q E h => ?_) (fun cdv A outer s H vs Q E hr h => ?_)
  · obtain ⟨_, rfl, _⟩ := h
    rfl
  obtain ⟨line, rfl, ll, k⟩ := h
  refine ⟨_, (pss_cons (ps_if (pt_cmpR op_eq (pv 0) pe_str (nomark _))
      (pss_one (ps_ret pe_non))
      pss_nil)
    (pss_cons (ps_set (i := 1) sc_step_in.nd rfl (Or.inl rfl) (pe_cal c_numbers_behind hr (pa_cons pe_str (pa_cons (pv 0) pa_nil))))
    (pss_one (ps_ret (pe_ifExp (pt_truth (pv 1) (by intro _; rfl)) (pe_tup' (pa_cons (pe_ix ix_seq' (pv 1) pe_int (fun _ _ => rfl)) (pa_cons (pe_callTy call_tuple' (by rfl) T.tuple (by decide +kernel) (pa_cons (pe_slice sl_list' (pv 1) (po_some pe_int) po_none) pa_nil)) pa_nil))) (pe_tup' pa_nil)))))), ?_⟩
  refine ⟨_, rfl, rfl, _, rfl, ?_⟩
  unfold lineD at k
  by_cases eb : line = "barrier"
  · rw [if_pos eb] at k
    exact iteT' (decide_eq_true (congrArg V.str eb)) (k _ H (Same.refl _) rfl)
  rw [if_neg eb] at k
  refine ite2 (fun y => absurd (V.str.inj (of_decide_eq_true y)) eb) (fun _ => ?_)
  refine ⟨_, rfl, _, _, rfl, ll, fun l H1 s1 n1 hl => ?_⟩
  have lns := nums_len (wd := "write") (line := line)
  generalize numsB "write" line = ns at hl k lns
  cases ns with
  | nil =>
    refine ⟨_, rfl, false, .inl ⟨_, SqL.of hl, rfl⟩, iteF ⟨szr, fun t H2 n2 s2 h2 => k _ H2 (s1.trans s2) ⟨t, rfl, h2⟩⟩⟩
  | cons f ws =>
    refine ⟨_, rfl, true, .inl ⟨_, SqL.of hl, rfl⟩, iteT ?_⟩
    refine ⟨_, rfl, l, _, _, .int f, rfl, rfl, .inl hl, atI_nat (j := 0) rfl, _, rfl, 1, rfl, l, _, rfl, hl, fun q H2 n2 s2 h2 => ?_⟩
    refine ⟨q, _, rfl, .inl h2, fun b H3 s3 h3 => ⟨szr, fun t H4 n4 s4 h4 => ?_⟩⟩
    have h3' : H3 b = some (.tup (ivs ws)) := by
      rw [h3]
      congr 2
      exact cut_from1
    exact k _ H4 (s1.trans (s2.trans (s3.trans s4))) ⟨t, b, rfl, h4, s4 _ _ h3'⟩
end
end Af

set_option Elab.async false
set_option linter.all false
set_option maxRecDepth 100000
set_option maxHeartbeats 4000000
namespace Af
open PySem L2
abbrev s_steps_in : Stmt := top 28
abbrev N_steps_in : List Str := ["lines", "width", "cells", "steps", "at", "step"]
theorem sc_steps_in : FnScope N_steps_in ["lines", "width", "cells"] (defScope s_steps_in) := ⟨rfl, rfl, rfl, by decide +kernel, rfl, by decide +kernel, by decide +kernel⟩

abbrev s_parse_plan : Stmt := top 27
abbrev N_parse_plan : List Str := ["text", "lines", "width", "base"]
theorem sc_parse_plan : FnScope N_parse_plan ["text"] (defScope s_parse_plan) := ⟨rfl, rfl, rfl, by decide +kernel, rfl, by decide +kernel, by decide +kernel⟩

def sp_roomE : Sp := fun vs H Q _ => ∃ (wd : Int) (a : Addr) (xs : List V) (sts : List Stp), vs = [.int wd, .ref a] ∧ H a = some (.lst xs) ∧ Paired (StepV H) xs sts ∧ 0 < wd ∧ xs.length ≤ 100 ∧ (∀ x ∈ sts, OkS 24 x) ∧
  ∀ H', Same H H' → Q (.bl (decide (xs.length ≤ 40) && decide ((allP wd 0 sts).length ≤ 40))) H'
def readS (w : Int) (m : Nat) : List Stp → Nat → List Str → Nat ⊕ List Stp
  | acc, _, [] => .inr acc
  | acc, k, l :: r => if (okS m (lineD l) && (decide ((acc ++ [stOf (lineD l)]).length ≤ 40) && decide ((allP w 0 (acc ++ [stOf (lineD l)])).length ≤ 40))) = true then readS w m (acc ++ [stOf (lineD l)]) (k + 1) r else .inl k
def sp_steps_in (CP : Addr) : Sp := fun vs H Q E => ∃ (la : Addr) (w : Int) (m : Nat) (ls : List Str), vs = [.ref la, .int w, .int (m : Nat)] ∧ H la = some (.lst (svs ls)) ∧ 0 < w ∧ m ≤ 24 ∧ 2 ≤ ls.length ∧ ls.length ≤ 50002 ∧ (∀ l ∈ ls, l.length ≤ 50000) ∧
  match readS w m [] 2 (ls.drop 2) with
  | .inl k => ∀ d H', Same H H' → H d = none → H' d = some (.xd [("line", .int (k : Nat))]) → E (.ref CP) (some d) H'
  | .inr sts => ∀ l H' xs, Same H H' → H l = none → H' l = some (.lst xs) → Paired (StepV H') xs sts → Q (.ref l) H'
section
variable {P : Program} {w : World} {K : PySem.W.Frag} {mg : Str → Option Value} {base : Heap}
theorem ok_roomE {f : Addr} {fd : FuncData} (F : Fun K "is_room" "is_room" s_is_room f fd) (T : Txt mg) (C : Cst K mg) (c_pieces_of : Cal P w K mg base 2 "_pieces_of" ["width", "steps"] sp_piecesX) : FnOk P w K mg base CX0 3 f fd ["width", "steps"] sp_roomE := by
  obtain ⟨tk1, c_MOST_STEPS⟩ := C.steps
  obtain ⟨tk2, c_MOST_PIECES⟩ := C.pieces
  refine F.ok sc_is_room (fun vs H Q E h => ?_) (fun cdv A outer s H vs Q E hr h => ?_)
  · obtain ⟨_, _, _, _, rfl, _⟩ := h
    rfl
  obtain ⟨wd, a, xs, sts, rfl, ha, hst, w0, xl, ok, k⟩ := h
  refine ⟨_, (pss_one (ps_ret (pe_and (pe_cmpR op_le (pe_callB call_len' (by rfl) T.len (by decide +kernel) (pa_cons (pv 1) pa_nil)) (pe_glob (v := .int 40) rfl c_MOST_STEPS ⟨_, rfl⟩) (nomark _)) (pe_one (pe_cmpR op_le (pe_callB call_len' (by rfl) T.len (by decide +kernel) (pa_cons (pe_cal c_pieces_of hr (pa_cons (pv 0) (pa_cons (pv 1) pa_nil))) pa_nil)) (pe_glob (v := .int 40) rfl c_MOST_PIECES ⟨_, rfl⟩) (nomark _)))))), ?_⟩
  refine ⟨_, rfl, a, xs, rfl, .inl ha, _, _, rfl, rfl, _, rfl, ?_⟩
  have e0 : decide (((xs.length : Nat) : Int) ≤ 40) = decide (xs.length ≤ 40) := by
    by_cases z : xs.length ≤ 40
    · rw [decide_eq_true z, decide_eq_true (by omega)]
    · rw [decide_eq_false z, decide_eq_false (by omega)]
  rw [e0]
  cases e1 : decide (xs.length ≤ 40) with
  | false =>
    refine iteF ?_
    have z := k H (Same.refl H)
    rw [e1] at z
    exact z
  | true =>
    refine iteT ⟨_, rfl, _, rfl, wd, a, xs, sts, rfl, ha, hst, w0, xl, ok, fun l H1 ys s1 hl h1 p1 => ?_⟩
    have l1 : ys.length = (allP wd 0 sts).length := paired_len p1
    refine ⟨l, ys, rfl, .inl h1, _, _, rfl, rfl, ?_⟩
    have z := k H1 s1
    rw [e1, ← l1] at z
    have e2 : decide (((ys.length : Nat) : Int) ≤ 40) = (true && decide (ys.length ≤ 40)) := by
      by_cases z : ys.length ≤ 40
      · rw [decide_eq_true z, decide_eq_true (by omega)]
        rfl
      · rw [decide_eq_false z, decide_eq_false (by omega)]
        rfl
    show Q (V.bl (decide (((ys.length : Nat) : Int) ≤ 40))) H1
    rw [e2]
    exact z
theorem ok_steps_in {f CP : Addr} {fd : FuncData} (F : Fun K "_steps_in" "_steps_in" s_steps_in f fd) (T : Txt mg) (PC : ∀ base, PeC P w K mg base CP) (c_step_in : Cal P w K mg base 3 "_step_in" ["line"] sp_step_in)
    (c_is_step : Cal P w K mg base 4 "is_step" ["cells", "thing"] (sp_is_step K)) (c_is_room : Cal P w K mg base 3 "is_room" ["width", "steps"] sp_roomE) : FnOk P w K mg base (L2.CX P w) 5 f fd ["lines", "width", "cells"] (sp_steps_in CP) := by
  have PC := PC base
  refine F.okX sc_steps_in (fun vs H Q E h => ?_) (fun cdv A outer s H vs Q E hr h => ?_)
  · obtain ⟨_, _, _, _, rfl, _⟩ := h
    rfl
  obtain ⟨la, wd, n, ls, rfl, hla, w0, n24, l2, l5, lb, k⟩ := h
  refine ⟨_, (pss_cons (ps_set (i := 3) sc_steps_in.nd rfl (Or.inl rfl) (pe_lst' pa_nil))
    (pss_cons (ps_for (passes_of rfl) rfl (pi_range2 rfl T.range (pa_cons pe_int (pa_cons (pe_callB call_len' (by rfl) T.len (by decide +kernel) (pa_cons (pv 0) pa_nil)) pa_nil))) (pg_name (i := 4) sc_steps_in.nd rfl (Or.inl rfl))
      (pss_cons (ps_set (i := 5) sc_steps_in.nd rfl (Or.inl rfl) (pe_cal c_step_in hr (pa_cons (pe_ix ix_seq' (pv 0) (pv 4) (fun _ _ => rfl)) pa_nil)))
    (pss_cons (ps_cut (ps_if (PW.pt (pw_or (pt_not (pt_val (pe_cal c_is_step hr (pa_cons (pv 2) (pa_cons (pv 5) pa_nil))))) (pw_or1 (pt_not (pt_val (pe_cal c_is_room hr (pa_cons (pv 1) (pa_cons (pe_op op_cat' (pv 3) (pe_lst' (pa_cons (pv 5) pa_nil))) pa_nil))))))))
      (pss_one (ps_raise rfl (takes_of rfl rfl rfl rfl) (pmk_pe PC hr (by rfl) (pa_cons (pv 4) pa_nil))))
      pss_nil))
    (pss_one (ps_expr (pe_bm PySem.F.plainAttrs_list PySem.F.slot_list_append PySem.F.type_list_append mt_append (pv 3) (pa_cons (pv 5) pa_nil)))))))
    (pss_one (ps_ret (pv 3))))), ?_⟩
  have ll : (svs ls).length = ls.length := svs_len _
  refine ⟨szr, fun r H1 n1 s1 h1 => ?_⟩
  refine ⟨_, rfl, la, _, rfl, .inl (s1 _ _ hla), 2, _, rfl, ⟨by omega, by omega, by omega, by omega⟩, for_range (lo := 2) (fun i σ' H' => ∃ xs sts v4 v5, σ' = [some (.ref la), some (.int wd), some (.int (n : Nat)), some (.ref r), v4, v5] ∧ Same H H' ∧ H' r = some (.lst xs) ∧ Paired (StepV H') xs sts ∧ sts.length ≤ 40 ∧ (∀ x ∈ sts, OkS n x) ∧ readS wd n [] 2 (ls.drop 2) = readS wd n sts (2 + i) (ls.drop (2 + i))) ?_ ?_ ?_⟩
  · exact ⟨[], [], _, _, rfl, s1, h1, .nil, by simp, (fun _ h => by cases h), rfl⟩
  · rintro i σ' H2 hi ⟨xs, sts, v4, v5, rfl, s2, h2, hp, sl, so, inv⟩
    rw [ll] at hi
    have il : 2 + i < ls.length := by omega
    have dr : ls.drop (2 + i) = ls[2 + i] :: ls.drop (2 + i + 1) := List.drop_eq_getElem_cons il
    have gl : ls[2 + i]? = some ls[2 + i] := List.getElem?_eq_getElem il
    generalize ls[2 + i] = line at dr gl
    have ha : atI (svs ls) (2 + (i : Int)) = some (.str line) := by
      rw [show (2 : Int) + (i : Int) = ((2 + i : Nat) : Int) by omega]
      refine atI_nat ?_
      unfold svs
      rw [List.getElem?_map, gl]
      rfl
    have mem := List.mem_of_getElem? gl
    rw [dr] at inv
    have inv : readS wd n [] 2 (ls.drop 2) = if (okS n (lineD line) && (decide ((sts ++ [stOf (lineD line)]).length ≤ 40) && decide ((allP wd 0 (sts ++ [stOf (lineD line)])).length ≤ 40))) = true then readS wd n (sts ++ [stOf (lineD line)]) (2 + i + 1) (ls.drop (2 + i + 1)) else .inl (2 + i) := inv
    have xl := paired_len hp
    have kE : readS wd n [] 2 (ls.drop 2) = .inl (2 + i) → ∀ d H', Same H H' → H d = none → H' d = some (.xd [("line", .int (2 + (i : Int)))]) → E (.ref CP) (some d) H' := fun e d H' s' nd hd => by
      rw [e] at k
      refine k d H' s' nd ?_
      rw [hd]
      congr 4
    refine ⟨_, rfl, _, rfl, la, _, _, _, rfl, rfl, .inl (s2 _ _ hla), ha, line, rfl, lb line mem, fun v H3 s3 hv => ?_⟩
    have S3 := s2.trans s3
    have lnl : ∀ ns, lineD line = some ns → ns.length ≤ 100000 := fun ns e => by
      have q := nums_len (wd := "write") (line := line)
      have b := lb line mem
      unfold lineD at e
      split at e
      · cases e
      · cases e; omega
    refine ⟨fun σ' H' => σ' = [some (.ref la), some (.int wd), some (.int (n : Nat)), some (.ref r), some (.int (2 + (i : Int))), some v] ∧ Same H3 H' ∧ (okS n (lineD line) && (decide ((sts ++ [stOf (lineD line)]).length ≤ 40) && decide ((allP wd 0 (sts ++ [stOf (lineD line)])).length ≤ 40))) = true, ?_, ?_⟩
    · refine ⟨_, rfl, _, rfl, _, _, rfl, hv.th lnl, fun H4 s4 => ⟨_, rfl, ?_⟩⟩
      rw [dq_step (K := K) hv.dq, show stepQ (n : Nat) (lnD (lineD line)) = okS n (lineD line) from rfl]
      cases e1 : okS n (lineD line) with
      | false =>
        rw [e1] at inv
        exact iteT ⟨_, rfl, by simp, pe_raise (by omega) (by omega) fun d H' s' nd hd => kE inv d H' (S3.trans (s4.trans s')) ((S3.trans s4).free nd) hd⟩
      | true =>
        rw [e1] at inv
        obtain ⟨sv, sk⟩ := hv.ok e1
        refine iteF ⟨_, rfl, _, rfl, _, rfl, szr, fun o9 H5 n5 s5 h5 => ?_⟩
        have S5 := s3.trans (s4.trans s5)
        refine ⟨r, o9, xs, _, rfl, rfl, S5 _ _ h2, h5, sz (by show _ + 1 ≤ _; omega), fun o8 H6 n6 s6 h6 => ?_⟩
        have p6 : Paired (StepV H6) (xs ++ [v]) (sts ++ [stOf (lineD line)]) := paired_app (steps_same (S5.trans s6) hp) (.cons (sv.kp (p := 0) (Kp.same (s4.trans (s5.trans s6)))) .nil)
        refine ⟨wd, o8, xs ++ [v], sts ++ [stOf (lineD line)], rfl, h6, p6, w0, by rw [List.length_append]; show _ + 1 ≤ 100; omega, fun y hy => ?_, fun H7 s7 => ⟨_, rfl, ?_⟩⟩
        · rcases List.mem_append.mp hy with hy | hy
          · exact ok24 (so y hy) n24
          · rw [List.mem_singleton.mp hy]; exact ok24 sk n24
        have le : (xs ++ [v]).length = (sts ++ [stOf (lineD line)]).length := paired_len p6
        rw [le]
        cases e2 : (decide ((sts ++ [stOf (lineD line)]).length ≤ 40) && decide ((allP wd 0 (sts ++ [stOf (lineD line)])).length ≤ 40)) with
        | false =>
          rw [e2] at inv
          have S7 := S3.trans (s4.trans (s5.trans (s6.trans s7)))
          exact iteT ⟨_, rfl, by simp, pe_raise (by omega) (by omega) fun d H' s' nd hd => kE inv d H' (S7.trans s') (S7.free nd) hd⟩
        | true => exact iteF ⟨rfl, s4.trans (s5.trans (s6.trans s7)), rfl⟩
    rintro _ H4 ⟨rfl, s4, cond⟩
    rw [if_pos cond] at inv
    rw [Bool.and_eq_true, Bool.and_eq_true] at cond
    obtain ⟨c1, c2, c3⟩ := cond
    obtain ⟨sv, sk⟩ := hv.ok c1
    have h4 := s4 _ _ (s3 _ _ h2)
    refine ⟨_, rfl, .inl ⟨rfl, _, SqL.of h4⟩, _, rfl, r, xs, _, rfl, rfl, h4, szl (by omega), ?_⟩
    have kk := kp_upd (zs := xs ++ [v]) h4
    refine ⟨_, sts ++ [stOf (lineD line)], _, _, rfl, same_mut (S3.trans s4) n1, upd_same, ?_, of_decide_eq_true c2, fun y hy => ?_, inv⟩
    · exact paired_app (steps_kp kk (steps_same (s3.trans s4) hp)) (.cons ((sv.kp (p := r) (Kp.same s4)).kp kk) .nil)
    · rcases List.mem_append.mp hy with hy | hy
      · exact so y hy
      · rw [List.mem_singleton.mp hy]; exact sk
  · rintro σ' H2 ⟨xs, sts, v4, v5, rfl, s2, h2, hp, sl, so, inv⟩
    rw [ll, show List.drop (2 + ((ls.length : Int) - 2).toNat) ls = [] from List.drop_eq_nil_of_le (by omega)] at inv
    have inv : readS wd n [] 2 (ls.drop 2) = .inr sts := inv
    rw [inv] at k
    exact ⟨_, rfl, k r H2 xs s2 n1 h2 hp⟩
end
end Af

set_option Elab.async false
set_option linter.all false
set_option maxRecDepth 100000
namespace Af
open PySem PySem.Spec PyProof.Rows L2
/-! xs.count(True); isinstance of an error that is held, of whatever class -/
def rCntT (K : PySem.W.Frag) : V → List V → Hp → VK → Prop := fun x xs H Q => ∃ (p : Addr) (bs : List Bool), x = .ref p ∧ xs = [.bl true] ∧ SqL K H p (bs.map V.bl) ∧ Q (.int ((bs.count true : Nat) : Int)) H
theorem dp_bools {K : PySem.W.Frag} {H : Hp} : ∀ bs : List Bool, DpAll K H (bs.map V.bl) (bs.map PyData.bool)
  | [] => .nil
  | b :: bs => .cons (.bl b) (dp_bools bs)
theorem lay_bools : ∀ bs : List Bool, PyData.canLayAll0 (bs.map PyData.bool) = true
  | [] => rfl
  | b :: bs => by
    show (PyData.canLay0 (.bool b) && PyData.canLayAll0 (bs.map PyData.bool)) = true
    rw [lay_bools bs]
    rfl
theorem cnt_bools : ∀ bs : List Bool, (bs.map PyData.bool).countP (fun y => PyData.eqv y (.bool true)) = bs.count true
  | [] => rfl
  | b :: bs => by
    rw [List.map_cons, List.countP_cons, cnt_bools bs, List.count_cons]
    cases b <;> rfl
theorem mt_countT {X : Cx} (hu : X.A.units + 1 < cLine) : MtR X "list.count" (rCntT X.K) := by
  intro pins s σ H x xs v us Q I rx rxs h
  obtain ⟨p, bs, rfl, rfl, hs, q⟩ := h
  cases (show v = Value.ref p from rx)
  obtain ⟨u, rfl, ru⟩ := rxs.one
  cases (show u = Value.bool true from ru)
  obtain ⟨its, rv, pl, _⟩ := I.list hs
  obtain ⟨as, rs⟩ := Dp.readsAll I _ _ its (dp_bools bs) rv
  refine PySem.SeqAt.count_list_data (d := .bool true) (vs := its.toArray) pl.isList (by simpa using rs) (Reads.bool true) (PyData.plainAll_of_canLay0 _ (lay_bools bs)) rfl (by show X.A.units + 1 + min _ 0 < cLine; omega) ?_
  refine ⟨.int ((bs.map PyData.bool).countP (fun y => PyData.eqv y (.bool true)) : Nat), H, I.tok _, ⟨_, rfl⟩, ?_⟩
  rw [cnt_bools]
  exact q
def rIsHeldE (K : PySem.W.Frag) : List V → Hp → VK → Prop := fun xs H Q => ∃ D, L2.ExcC K D ∧ rIsHeld K D xs H Q
theorem call_isHeldE {X : Cx} : CallR X (.builtin "isinstance") (rIsHeldE X.K) := by
  intro pins s σ H xs us Q I r h
  obtain ⟨D, C, h⟩ := h
  exact call_isHeld C pins s σ H xs us Q I r h
/-- xs.index(True) of some bools -/
def rIdxT (K : PySem.W.Frag) : V → List V → Hp → VK → Prop := fun x xs H Q => ∃ (p : Addr) (bs : List Bool) (j : Nat), x = .ref p ∧ xs = [.bl true] ∧ SqL K H p (bs.map V.bl) ∧ bs.idxOf true = j ∧ j < bs.length ∧ Q (.int (j : Int)) H
end Af

set_option Elab.async false
set_option linter.all false
set_option maxRecDepth 100000
set_option maxHeartbeats 2000000
namespace Af
open PySem PySem.Spec PyProof.Rows L2
/-! a def that may raise, as others call it; data of any kind, as the program's questions see it -/
structure CalX (P : Program) (w : World) (K : PySem.W.Frag) (mg : Str → Option Value) (base : Heap) (k : Nat) (x : Str) (ps : List Str) (sp : Sp) : Prop where
  ex : ∃ (f : Addr) (fd : FuncData), FnOk P w K mg base (L2.CX P w) k f fd ps sp ∧ mg x = some (.ref f) ∧ PySem.W.keepIn K (.ref f) = true ∧ Binds K fd ps []
section
variable {X : Cx} {k j : Nat} {x : Str} {ps : List Str} {sp : Sp} {e : Expr} {es : List Expr} {t : TA} {p pos : Pos} {E : L2.St → XK}
theorem pe_calX (c : CalX X.prog X.w X.K X.mg X.base k x ps sp) (hr : Room j X.A) (out : ∀ σ, PassesAt (L2.CX X.prog X.w) X σ (E σ)) (ha : PA X (e :: es) t) (hkj : k ≤ j := by decide) (hg : Gl X x := by rfl) (hdb : (x == ("__debug__" : Str)) = false := by decide)
    (he : starEach (e :: es) X.env = (false, eval e X.env) :: starEach es X.env := by rfl) (hpl : (backTo pos (starEach es X.env)).any (·.1) = false := by rfl) :
    PE X (.Call (.Name x p) (e :: es) [] pos) (tCallS sp E t) := by
  obtain ⟨f, fd, G, m, kp, b⟩ := c.ex
  exact pe_callS G (hr.mono hkj) hg m kp b out ha hdb he hpl
/-- where what is raised leaves the def -/
theorem outE {E : XK} (h : Passes (L2.CX X.prog X.w) X E) : ∀ σ, PassesAt (L2.CX X.prog X.w) X σ ((fun _ => E) σ) := fun σ pins H s e s' I c => h pins σ H s e s' I c
def rIsHeldTE (K : PySem.W.Frag) : List V → Hp → VK → Prop := fun xs H Q => ∃ D, L2.ExcC K D ∧ rIsHeldT K D xs H Q
theorem call_isHeldTE : CallR X (.builtin "isinstance") (rIsHeldTE X.K) := by
  intro pins s σ H xs us Q I r h
  obtain ⟨D, C, h⟩ := h
  exact call_isHeldT C pins s σ H xs us Q I r h
end
section
variable {K : PySem.W.Frag} {H : Hp}
theorem worths_ints {m : Int} : ∀ {xs : List V} {ds : List PyData}, DxAll K H xs ds → ds.all (idxD m) = true → ∃ ws, xs = ivs ws ∧ ds = dvs ws ∧ ∀ z ∈ ws, 0 ≤ z ∧ z < m
  | _, _, .nil, _ => ⟨[], rfl, rfl, fun z hz => by cases hz⟩
  | _, _, .cons (d := d) h t, q => by
    rw [List.all_cons, Bool.and_eq_true] at q
    obtain ⟨ws, e1, e2, b⟩ := worths_ints t q.2
    cases h with
    | int i =>
      have q1 : (decide (0 ≤ i) && decide (i < m)) = true := q.1
      rw [Bool.and_eq_true] at q1
      refine ⟨i :: ws, by rw [e1]; rfl, by rw [e2]; rfl, fun z hz => ?_⟩
      rcases List.mem_cons.mp hz with rfl | hz
      · exact ⟨of_decide_eq_true q1.1, of_decide_eq_true q1.2⟩
      · exact b z hz
    | _ => cases q.1
/-- what passes for worths is a tuple of small numbers -/
theorem worths_of {x : V} {d : PyData} (h : Dx K H x d) (q : worthsD d = true) : ∃ a ws, x = .ref a ∧ H a = some (.tup (ivs ws)) ∧ d = .tuple (dvs ws) ∧ 1 ≤ ws.length ∧ ∀ z ∈ ws, 0 ≤ z ∧ z < 8 := by
  cases h with
  | tup e t =>
    have q : (!_ && _) = true := q
    rw [Bool.and_eq_true] at q
    obtain ⟨ws, e1, e2, b⟩ := worths_ints t q.2
    subst e1 e2
    refine ⟨_, ws, rfl, e, rfl, ?_, b⟩
    cases ws with
    | nil => exact absurd q.1 (by simp [dvs])
    | cons z r => exact Nat.succ_le_succ (Nat.zero_le _)
  | _ => cases q
end
end Af

set_option Elab.async false
set_option linter.all false
set_option maxRecDepth 100000
set_option maxHeartbeats 4000000
namespace Af
open PySem L2
def baseOk (cs : List Int) : Bool := !cs.isEmpty && cs.all (fun z => decide (0 ≤ z) && decide (z < 8)) && decide (cs.length ≤ 24)
def widthOk (w : Int) : Bool := decide (1 ≤ w) && decide (w ≤ 24)
/-- what a text says: the line that is wrong, or a plan -/
def readT (t : Str) : Nat ⊕ Pl :=
  let ls := Txt.split t "\n"
  let w := widthI (ls.headD "")
  if widthOk w = false then .inl 0 else if ls.length = 1 then .inl 1 else
    let cs := numsB "base" ((ls.drop 1).headD "")
    if baseOk cs = false then .inl 1 else match readS w cs.length [] 2 (ls.drop 2) with
      | .inl k => .inl k
      | .inr sts => .inr ⟨cs, w, sts⟩
def sp_parse (C CP : Addr) : Sp := fun vs H Q E => ∃ (t : Str), vs = [.str t] ∧ t.length ≤ 50000 ∧
  match readT t with
  | .inl k => ∀ d H', Same H H' → H d = none → H' d = some (.xd [("line", .int (k : Nat))]) → E (.ref CP) (some d) H'
  | .inr pl => ∀ y H', Same H H' → PlanN C H H' y pl → Q y H'
def sp_parseX (K : PySem.W.Frag) (CP : Addr) : Sp := fun vs H Q E => ∃ (x : V) (n : String), vs = [x] ∧ Ty K H x n ∧ isB n "str" = false ∧
  ∀ d H', Same H H' → H d = none → H' d = some (.xd [("line", .int 0)]) → E (.ref CP) (some d) H'
theorem width_eq {w : Int} : widthB (.int w) = widthOk w := by
  unfold widthB widthOk
  first | rfl | simp
theorem content_eq {K : PySem.W.Frag} {H : Hp} {b : Addr} {cs : List Int} (h : H b = some (.tup (ivs cs))) : contentB H (.ref b) = baseOk cs := by
  rw [dq_content (K := K) (.tup h (dq_ints cs))]
  show ((!(dvs cs).isEmpty && (dvs cs).all (idxD 8)) && decide ((dvs cs).length ≤ 24)) = _
  unfold baseOk dvs
  rw [List.all_map, List.length_map, List.isEmpty_map]
  rfl
theorem base_ok {cs : List Int} (h : baseOk cs = true) : 1 ≤ cs.length ∧ cs.length ≤ 24 ∧ ∀ z ∈ cs, 0 ≤ z ∧ z < 8 := by
  unfold baseOk at h
  rw [Bool.and_eq_true, Bool.and_eq_true] at h
  obtain ⟨⟨h1, h2⟩, h3⟩ := h
  refine ⟨?_, of_decide_eq_true h3, fun z hz => ?_⟩
  · cases cs with
    | nil => cases h1
    | cons _ _ => simp
  · have q := List.all_eq_true.mp h2 z hz
    rw [Bool.and_eq_true] at q
    exact ⟨of_decide_eq_true q.1, of_decide_eq_true q.2⟩
theorem width_ok' {w : Int} (h : widthOk w = true) : 1 ≤ w ∧ w ≤ 24 := by
  unfold widthOk at h
  rw [Bool.and_eq_true] at h
  exact ⟨of_decide_eq_true h.1, of_decide_eq_true h.2⟩
theorem okS_ok {n : Nat} {d : Option (List Int)} (o : okS n d = true) : OkS n (stOf d) := by
  match d, o with
  | none, _ => exact True.intro
  | some [], o => cases o
  | some (f :: r), o => exact (SdV.ok (d := some (f :: r)) (n := n) (H := fun b => if b = 0 then some (.tup [.int f, .ref 1]) else some (.tup (ivs r))) (v := .ref 0) ⟨0, 1, rfl, rfl, rfl⟩ o).2
theorem readS_ok {w : Int} {n : Nat} : ∀ (ls : List Str) (acc : List Stp) (k : Nat) (sts : List Stp), readS w n acc k ls = .inr sts → acc.length ≤ 40 → (∀ x ∈ acc, OkS n x) → (allP w 0 acc).length ≤ 40 → sts.length ≤ 40 ∧ (∀ x ∈ sts, OkS n x) ∧ (allP w 0 sts).length ≤ 40
  | [], acc, k, sts, h, a, b, c => by
    cases h
    exact ⟨a, b, c⟩
  | l :: r, acc, k, sts, h, a, b, c => by
    unfold readS at h
    split at h
    · rename_i q
      rw [Bool.and_eq_true, Bool.and_eq_true] at q
      refine readS_ok r _ _ sts h (of_decide_eq_true q.2.1) (fun x hx => ?_) (of_decide_eq_true q.2.2)
      rcases List.mem_append.mp hx with hx | hx
      · exact b x hx
      · rw [List.mem_singleton.mp hx]; exact okS_ok q.1
    · cases h
section
variable {P : Program} {w : World} {K : PySem.W.Frag} {mg : Str → Option Value} {base : Heap}
theorem ok_parse {f C CP fI : Addr} {fd fdI : FuncData} (F : Fun K "parse_plan" "parse_plan" s_parse_plan f fd) (T : Txt mg) (t_str : mg "str" = none) (PC : ∀ base, PeC P w K mg base CP) (TC : PlanC K mg C) (M_Plan : Mk K C fI)
    (G_Plan : FnOk P w K mg base CX0 6 fI fdI ["self", "base", "width", "steps"] (sp_initX C)) (b_Plan : Binds K fdI ["self", "base", "width", "steps"] [])
    (c_width_in : Cal P w K mg base 3 "_width_in" ["line"] sp_width_in) (c_is_width : Cal P w K mg base 2 "is_width" ["thing"] (sp_is_width K)) (c_is_content : Cal P w K mg base 4 "is_content" ["thing"] (sp_is_content K))
    (c_numbers_behind : Cal P w K mg base 2 "_numbers_behind" ["word", "line"] sp_numbers) (c_steps_in : CalX P w K mg base 5 "_steps_in" ["lines", "width", "cells"] (sp_steps_in CP)) : FnOk P w K mg base (L2.CX P w) 8 f fd ["text"] (sp_parse C CP) := by
  have PC := PC base
  refine F.okX sc_parse_plan (fun vs H Q E h => ?_) (fun cdv A outer s H vs Q E hr h => ?_)
  · obtain ⟨_, rfl, _⟩ := h
    rfl
  obtain ⟨t, rfl, lt, k⟩ := h
  refine ⟨_, (pss_cons (ps_if (pt_not (pt_val (pe_callB call_isi' (by rfl) T.isinstance (by decide +kernel) (pa_cons (pv 0) (pa_cons (pe_bltn (v := .ty "str") (by rfl) t_str (by decide +kernel) rfl) pa_nil)))))
      (pss_one (ps_raise rfl (takes_of rfl rfl rfl rfl) (pmk_pe PC hr (by rfl) (pa_cons pe_int pa_nil))))
      pss_nil)
    (pss_cons (ps_set (i := 1) sc_parse_plan.nd rfl (Or.inl rfl) (pe_split (pv 0) pe_str))
    (pss_cons (ps_set (i := 2) sc_parse_plan.nd rfl (Or.inl rfl) (pe_cal c_width_in hr (pa_cons (pe_ix ix_seq' (pv 1) pe_int (fun _ _ => rfl)) pa_nil)))
    (pss_cons (ps_if (pt_not (pt_val (pe_cal c_is_width hr (pa_cons (pv 2) pa_nil))))
      (pss_one (ps_raise rfl (takes_of rfl rfl rfl rfl) (pmk_pe PC hr (by rfl) (pa_cons pe_int pa_nil))))
      pss_nil)
    (pss_cons (ps_if (pt_cmpR op_eq (pe_callB call_len' (by rfl) T.len (by decide +kernel) (pa_cons (pv 1) pa_nil)) pe_int (nomark _))
      (pss_one (ps_raise rfl (takes_of rfl rfl rfl rfl) (pmk_pe PC hr (by rfl) (pa_cons pe_int pa_nil))))
      pss_nil)
    (pss_cons (ps_set (i := 3) sc_parse_plan.nd rfl (Or.inl rfl) (pe_callTy call_tuple' (by rfl) T.tuple (by decide +kernel) (pa_cons (pe_cal c_numbers_behind hr (pa_cons pe_str (pa_cons (pe_ix ix_seq' (pv 1) pe_int (fun _ _ => rfl)) pa_nil))) pa_nil)))
    (pss_cons (ps_if (pt_not (pt_val (pe_cal c_is_content hr (pa_cons (pv 3) pa_nil))))
      (pss_one (ps_raise rfl (takes_of rfl rfl rfl rfl) (pmk_pe PC hr (by rfl) (pa_cons pe_int pa_nil))))
      pss_nil)
    (pss_one (ps_ret (pe_make M_Plan G_Plan (hr.mono (by decide)) rfl TC.mgC b_Plan .nil pass0 (pa_cons (pv 3) (pa_cons (pv 2) (pa_cons (pe_calX c_steps_in hr (outE (passes_call (takes_of rfl rfl rfl rfl) (fun _ _ _ _ h => h))) (pa_cons (pv 1) (pa_cons (pv 2) (pa_cons (pe_callB call_len' (by rfl) T.len (by decide +kernel) (pa_cons (pv 3) pa_nil)) pa_nil)))) pa_nil))))))))))))), ?_⟩
  have lsp := PyProof.Rows.split_pos t "\n"
  have lsl := PyProof.Rows.split_le t "\n"
  have lb : ∀ l ∈ Txt.split t "\n", l.length ≤ 50000 := fun l h => Nat.le_trans (part_len h) lt
  refine ⟨_, rfl, _, "str", "str", rfl, ⟨.str _, by decide, fun _ _ _ e => by cases e⟩, by decide, _, rfl, iteF ?_⟩
  refine ⟨_, rfl, ⟨_, rfl⟩, _, _, rfl, rfl, by decide +kernel, sz (by omega), fun p hp => ?_⟩
  unfold readT at k
  generalize Txt.split t "\n" = ls at lsp lsl lb k ⊢
  cases ls with
  | nil => simp at lsp
  | cons l0 rest =>
  have s1 : Same H (upd H p (.lst (svs (l0 :: rest)))) := same_new hp
  have h1 : (upd H p (.lst (svs (l0 :: rest)))) p = some (.lst (svs (l0 :: rest))) := upd_same
  show gName 1 _ _ (upd H p (.lst (svs (l0 :: rest)))) _
  generalize upd H p (.lst (svs (l0 :: rest))) = H1 at s1 h1
  have k : match (if widthOk (widthI l0) = false then (.inl 0 : Nat ⊕ Pl) else if (l0 :: rest).length = 1 then .inl 1 else if baseOk (numsB "base" (rest.headD "")) = false then .inl 1 else match readS (widthI l0) (numsB "base" (rest.headD "")).length [] 2 (rest.drop 1) with
      | .inl k => .inl k
      | .inr sts => .inr ⟨numsB "base" (rest.headD ""), widthI l0, sts⟩) with
    | .inl k => ∀ d H', Same H H' → H d = none → H' d = some (.xd [("line", .int (k : Nat))]) → E (.ref CP) (some d) H'
    | .inr pl => ∀ y H', Same H H' → PlanN C H H' y pl → Q y H' := by cases rest <;> exact k
  refine ⟨_, rfl, p, _, _, .str l0, rfl, rfl, .inl h1, atI_nat (j := 0) rfl, l0, rfl, lb l0 (by simp), fun H2 s2 => ?_⟩
  have h2 := s2 _ _ h1
  refine ⟨_, rfl, _, "int", rfl, ⟨.int _, by decide, fun _ _ _ e => by cases e⟩, ?_⟩
  rw [width_eq]
  cases ew : widthOk (widthI l0) with
  | false =>
    rw [if_pos ew] at k
    exact ⟨_, rfl, iteT ⟨by simp, pe_raise (by omega) (by omega) fun d H' s' nd hd => k d H' (s1.trans (s2.trans s')) ((s1.trans s2).free nd) hd⟩⟩
  | true =>
  rw [if_neg (by rw [ew]; decide)] at k
  refine ⟨_, rfl, iteF ?_⟩
  refine ⟨_, rfl, p, _, rfl, .inl h2, rfl, _, rfl, ?_⟩
  cases rest with
  | nil =>
    rw [if_pos (show ([l0] : List Str).length = 1 from rfl)] at k
    exact iteT' (by rfl) ⟨by simp, pe_raise (by omega) (by omega) fun d H' s' nd hd => k d H' (s1.trans (s2.trans s')) ((s1.trans s2).free nd) hd⟩
  | cons l1 rest =>
  rw [if_neg (by simp)] at k
  have k : match (if baseOk (numsB "base" l1) = false then (.inl 1 : Nat ⊕ Pl) else match readS (widthI l0) (numsB "base" l1).length [] 2 rest with
      | .inl k => .inl k
      | .inr sts => .inr ⟨numsB "base" l1, widthI l0, sts⟩) with
    | .inl k => ∀ d H', Same H H' → H d = none → H' d = some (.xd [("line", .int (k : Nat))]) → E (.ref CP) (some d) H'
    | .inr pl => ∀ y H', Same H H' → PlanN C H H' y pl → Q y H' := k
  refine ite2 (fun y => by have := V.int.inj (of_decide_eq_true y); rw [svs_len] at this; simp at this; omega) (fun _ => ?_)
  have lns := nums_len (wd := "base") (line := l1)
  have lb1 := lb l1 (by simp)
  refine ⟨_, rfl, p, _, _, .str l1, rfl, rfl, .inl h2, atI_nat (j := 1) rfl, _, _, rfl, lb1, fun l H3 s3 n3 h3 => ⟨l, _, rfl, .inl h3, fun b H4 s4 h4 => ?_⟩⟩
  generalize numsB "base" l1 = cs at k h3 h4 lns
  have S4 := s2.trans (s3.trans s4)
  refine ⟨_, rfl, _, rfl, th_ints h4 (by omega), fun H5 s5 => ⟨_, rfl, ?_⟩⟩
  rw [content_eq (K := K) h4]
  have h5 := s5 _ _ h4
  have S5 := S4.trans s5
  cases eb : baseOk cs with
  | false =>
    rw [if_pos eb] at k
    exact iteT ⟨by simp, pe_raise (by omega) (by omega) fun d H' s' nd hd => k d H' (s1.trans (S5.trans s')) ((s1.trans S5).free nd) hd⟩
  | true =>
  rw [if_neg (by rw [eb]; decide)] at k
  refine iteF ?_
  obtain ⟨c1, c24, cb⟩ := base_ok eb
  obtain ⟨w1, w24⟩ := width_ok' ew
  refine ⟨_, rfl, _, rfl, _, rfl, _, rfl, _, rfl, b, _, rfl, .inr h5, p, widthI l0, cs.length, l0 :: l1 :: rest, by rw [ivs_len], S5 _ _ h1, by omega, c24, by simp, by omega, lb, ?_⟩
  show match readS (widthI l0) cs.length [] 2 rest with
    | .inl k => _
    | .inr sts => _
  cases er : readS (widthI l0) cs.length [] 2 rest with
  | inl kk =>
    rw [er] at k
    exact fun d H' s' nd hd => k d H' (s1.trans (S5.trans s')) ((s1.trans S5).free nd) hd
  | inr sts =>
    rw [er] at k
    obtain ⟨r1, r2, r3⟩ := readS_ok _ _ _ _ er (by simp) (fun _ h => by cases h) (by show 0 ≤ 40; decide)
    have ok : OkP ⟨cs, widthI l0, sts⟩ := ⟨c1, c24, cb, w1, w24, r2, r1, r3⟩
    refine fun r H6 xs s6 n6 h6 hp6 => ?_
    refine fun y dy hy hdy ndy => ?_
    have s0 : Same H6 (upd (upd H6 dy (.own y)) y (.ins C dy [])) := fun b o e => by
      rw [upd_ne (ne_of_none e hy), upd_ne (ne_of_none e hdy)]
      exact e
    have S6 := s1.trans (S5.trans s6)
    exact made_outW (K := K) (pl := ⟨cs, widthI l0, sts⟩) rfl (S6.free hy) (S6.trans s0) upd_same (s0 _ _ (s6 _ _ h5)) (s0 _ _ h6) (steps_same s0 hp6) ok fun H' s' n => ⟨rfl, k _ H' s' n⟩
theorem ok_parseX {f CP : Addr} {fd : FuncData} (F : Fun K "parse_plan" "parse_plan" s_parse_plan f fd) (T : Txt mg) (t_str : mg "str" = none) (PC : ∀ base, PeC P w K mg base CP) {C fI : Addr} {fdI : FuncData} (TC : PlanC K mg C) (M_Plan : Mk K C fI)
    (G_Plan : FnOk P w K mg base CX0 6 fI fdI ["self", "base", "width", "steps"] (sp_initX C)) (b_Plan : Binds K fdI ["self", "base", "width", "steps"] [])
    (c_width_in : Cal P w K mg base 3 "_width_in" ["line"] sp_width_in) (c_is_width : Cal P w K mg base 2 "is_width" ["thing"] (sp_is_width K)) (c_is_content : Cal P w K mg base 4 "is_content" ["thing"] (sp_is_content K))
    (c_numbers_behind : Cal P w K mg base 2 "_numbers_behind" ["word", "line"] sp_numbers) (c_steps_in : CalX P w K mg base 5 "_steps_in" ["lines", "width", "cells"] (sp_steps_in CP)) : FnOk P w K mg base (L2.CX P w) 8 f fd ["text"] (sp_parseX K CP) := by
  have PC := PC base
  refine F.okX sc_parse_plan (fun vs H Q E h => ?_) (fun cdv A outer s H vs Q E hr h => ?_)
  · obtain ⟨_, _, rfl, _⟩ := h
    rfl
  obtain ⟨x, n, rfl, ty, ns, k⟩ := h
  refine ⟨_, (pss_cons (ps_if (pt_not (pt_val (pe_callB call_isi' (by rfl) T.isinstance (by decide +kernel) (pa_cons (pv 0) (pa_cons (pe_bltn (v := .ty "str") (by rfl) t_str (by decide +kernel) rfl) pa_nil)))))
      (pss_one (ps_raise rfl (takes_of rfl rfl rfl rfl) (pmk_pe PC hr (by rfl) (pa_cons pe_int pa_nil))))
      pss_nil)
    (pss_cons (ps_set (i := 1) sc_parse_plan.nd rfl (Or.inl rfl) (pe_split (pv 0) pe_str))
    (pss_cons (ps_set (i := 2) sc_parse_plan.nd rfl (Or.inl rfl) (pe_cal c_width_in hr (pa_cons (pe_ix ix_seq' (pv 1) pe_int (fun _ _ => rfl)) pa_nil)))
    (pss_cons (ps_if (pt_not (pt_val (pe_cal c_is_width hr (pa_cons (pv 2) pa_nil))))
      (pss_one (ps_raise rfl (takes_of rfl rfl rfl rfl) (pmk_pe PC hr (by rfl) (pa_cons pe_int pa_nil))))
      pss_nil)
    (pss_cons (ps_if (pt_cmpR op_eq (pe_callB call_len' (by rfl) T.len (by decide +kernel) (pa_cons (pv 1) pa_nil)) pe_int (nomark _))
      (pss_one (ps_raise rfl (takes_of rfl rfl rfl rfl) (pmk_pe PC hr (by rfl) (pa_cons pe_int pa_nil))))
      pss_nil)
    (pss_cons (ps_set (i := 3) sc_parse_plan.nd rfl (Or.inl rfl) (pe_callTy call_tuple' (by rfl) T.tuple (by decide +kernel) (pa_cons (pe_cal c_numbers_behind hr (pa_cons pe_str (pa_cons (pe_ix ix_seq' (pv 1) pe_int (fun _ _ => rfl)) pa_nil))) pa_nil)))
    (pss_cons (ps_if (pt_not (pt_val (pe_cal c_is_content hr (pa_cons (pv 3) pa_nil))))
      (pss_one (ps_raise rfl (takes_of rfl rfl rfl rfl) (pmk_pe PC hr (by rfl) (pa_cons pe_int pa_nil))))
      pss_nil)
    (pss_one (ps_ret (pe_make M_Plan G_Plan (hr.mono (by decide)) rfl TC.mgC b_Plan .nil pass0 (pa_cons (pv 3) (pa_cons (pv 2) (pa_cons (pe_calX c_steps_in hr (outE (passes_call (takes_of rfl rfl rfl rfl) (fun _ _ _ _ h => h))) (pa_cons (pv 1) (pa_cons (pv 2) (pa_cons (pe_callB call_len' (by rfl) T.len (by decide +kernel) (pa_cons (pv 3) pa_nil)) pa_nil)))) pa_nil))))))))))))), ?_⟩
  refine ⟨_, rfl, _, n, "str", rfl, ty, by decide, _, rfl, ?_⟩
  rw [ns]
  exact iteT ⟨by simp, pe_raise (by omega) (by omega) fun d H' s' nd hd => k d H' s' nd hd⟩
end
end Af

set_option Elab.async false
set_option linter.all false
set_option maxRecDepth 100000
namespace Af
open PySem L2
theorem op_inK {X : Cx} {K : PySem.W.Frag} (hK : X.K = K) : OpR X (compareOp .In) (rIn K false) := by
  subst hK
  exact op_in_seq
theorem op_notInK {X : Cx} {K : PySem.W.Frag} (hK : X.K = K) : OpR X (compareOp .NotIn) (rIn K true) := by
  subst hK
  exact op_notIn_seq
theorem in_ivs (z : Int) : ∀ cs : List Int, inV (.int z) (ivs cs) = cs.contains z
  | [] => rfl
  | c :: cs => by
    show (eqV (.int c) (.int z) || inV (.int z) (ivs cs)) = _
    rw [in_ivs z cs, List.contains_cons]
    congr 1
    show (c == z) = (z == c)
    exact BEq.comm
theorem flat_ivs (cs : List Int) : (ivs cs).all flatV = true := List.all_eq_true.mpr fun x hx => by
  obtain ⟨z, _, rfl⟩ := List.mem_map.mp hx
  rfl
def nvs (ps : List Nat) : List V := ivs (ps.map fun p => ((p : Nat) : Int))
theorem nvs_len (ps : List Nat) : (nvs ps).length = ps.length := by
  unfold nvs ivs
  rw [List.length_map, List.length_map]
end Af

set_option Elab.async false
set_option linter.all false
set_option maxRecDepth 100000
set_option maxHeartbeats 4000000
namespace Af
open PySem L2
abbrev s_l_figures : Stmt := top 37
abbrev N_l_figures : List Str := ["_law_word", "_law_under", "_law_found", "_law_sign"]
theorem sc_l_figures : FnScope N_l_figures ["_law_word", "_law_under"] (defScope s_l_figures) := ⟨rfl, rfl, rfl, by decide +kernel, rfl, by decide +kernel, by decide +kernel⟩

abbrev s_l_row_of : Stmt := top 38
abbrev N_l_row_of : List Str := ["_law_line_here", "_law_many", "_law_words", "_law_first", "_law_worths_here", "_law_word"]
theorem sc_l_row_of : FnScope N_l_row_of ["_law_line_here", "_law_many"] (defScope s_l_row_of) := ⟨rfl, rfl, rfl, by decide +kernel, rfl, by decide +kernel, by decide +kernel⟩

theorem num_log {i : Int} (h0 : 0 ≤ i) (h1 : i < 100) : i.natAbs.log2 < 1920 := Nat.lt_of_le_of_lt (Nat.log2_le_self _) (by omega)
def figV (u : Int) (w : Str) : V := if 0 ≤ numB w ∧ numB w < u then .int (numB w) else .non
def sp_figures : Sp := fun vs H Q _ => ∃ (w : Str) (u : Int), vs = [.str w, .int u] ∧ w.length ≤ 100000 ∧ ∀ H', Same H H' → Q (figV u w) H'
section
variable {P : Program} {w : World} {K : PySem.W.Frag} {mg : Str → Option Value} {base : Heap}
theorem ok_figures {f : Addr} {fd : FuncData} (F : Fun K "_law_figures" "_law_figures" s_l_figures f fd) (T : Txt mg) (t_str : mg "str" = none) : FnOk P w K mg base CX0 1 f fd ["_law_word", "_law_under"] sp_figures := by
  refine F.ok sc_l_figures (fun vs H Q E h => ?_) (fun cdv A outer s H vs Q E hr h => ?_)
  · obtain ⟨_, _, rfl, _⟩ := h
    rfl
  obtain ⟨wd, u, rfl, lw, k⟩ := h
  have lz : wd.length ≤ sizeLine := sz (by omega)
  have ltl : wd.length = (TL.tl wd).length := TL.len_tl _
  refine ⟨_, (pss_cons (ps_cut (ps_if (PW.pt (pw_or (pt_cmpR op_notIn_seq (pe_callB call_len_str (by rfl) T.len (by decide +kernel) (pa_cons (pv 0) pa_nil)) (pe_tup' (pa_cons pe_int (pa_cons pe_int pa_nil))) (by rfl)) (pw_or1 (pt_not (pt_val (pe_callB (cr_all rfl) (by rfl) T.all (by decide +kernel) (pa_cons (pe_lc (own := [("_law_sign", 3)]) (g := (gName 3)) (tt := tYes) rfl sc_l_figures.nd (pi_str (pv 0)) (blkOk_by (own := [("_law_sign", 3)]) (N := N_l_figures) (sc := defScope s_l_figures) (by decide +kernel)) (fun _ _ _ _ _ => pg_name (i := 3) sc_l_figures.nd rfl (Or.inl rfl)) (fun _ _ _ _ _ => pts_nil) (fun _ _ _ _ _ => (pe_cmpR op_in_sign (pv 3) pe_str (by rfl)))) pa_nil)))))))
      (pss_one (ps_ret pe_non))
      pss_nil))
    (pss_cons (ps_set (i := 2) sc_l_figures.nd rfl (Or.inl rfl) (pe_callTy call_int_str (by rfl) T.int (by decide +kernel) (pa_cons (pv 0) pa_nil)))
    (pss_one (ps_ret (pe_ifExp (PW.pt (pw_and (pt_cmpR op_eq (pe_callTy call_str_int (by rfl) t_str (by decide +kernel) (pa_cons (pv 2) pa_nil)) (pv 0) (nomark _)) (pw_and1 (pt_cmpR op_lt (pv 2) (pv 1) (nomark _))))) (pv 2) pe_non))))), ?_⟩
  have knon : (numB wd = -1 ∨ ¬ (0 ≤ numB wd ∧ numB wd < u)) → ∀ H', Same H H' → Q .non H' := fun e H' s' => by
    have := k H' s'
    unfold figV at this
    rw [if_neg (by rcases e with e | e <;> omega)] at this
    exact this
  refine ⟨fun σ' H' => σ' = [some (.str wd), some (.int u), none, none] ∧ Same H H' ∧ 1 ≤ wd.length ∧ wd.length ≤ 2 ∧ (TL.tl wd).all digB = true, ?_, ?_⟩
  · refine ⟨_, rfl, _, rfl, lz, szr, fun tp H1 n1 s1 h1 => ⟨tp, _, rfl, .inr (SqT.of h1), rfl, by decide, _, rfl, ?_⟩⟩
    show if (!inV (V.int (wd.length : Nat)) [.int 1, .int 2]) = true then _ else _
    have ei : inV (V.int (wd.length : Nat)) [.int 1, .int 2] = decide (wd.length = 1 ∨ wd.length = 2) := by
      show (eqV (.int 1) (.int (wd.length : Nat)) || (eqV (.int 2) (.int (wd.length : Nat)) || false)) = _
      show (((1 : Int) == (wd.length : Nat)) || (((2 : Int) == (wd.length : Nat)) || false)) = _
      rw [Bool.or_false]
      by_cases a : wd.length = 1
      · rw [a]; rfl
      · by_cases b : wd.length = 2
        · rw [b]; rfl
        · rw [decide_eq_false (by omega), show ((1 : Int) == (wd.length : Nat)) = false by simp; omega, show ((2 : Int) == (wd.length : Nat)) = false by simp; omega]
          rfl
    rw [ei]
    by_cases l12 : wd.length = 1 ∨ wd.length = 2
    · rw [decide_eq_true l12]
      refine iteF ⟨_, rfl, _, rfl, fun D hD => lc_it (walk_str (z := wd)) (fun j H' => Same H H' ∧ H' D = some (.lst ((((TL.tl wd).take j).map digB).map .bl))) ?_ (fun _ _ _ _ => trivial) ?_ ?_⟩
      · exact ⟨s1.trans (same_new hD), upd_same⟩
      · rintro j x H2 H3 hj ⟨s2, h2⟩ ⟨rfl, d, hd, rfl⟩
        have e : (TL.tl wd)[j]? = some d := by
          have e : wd.cps.toList[j]? = some d := by rw [Array.getElem?_toList]; exact hd
          exact e
        refine ⟨rfl, _, rfl, d, _, rfl, rfl, _, h2, szl (by rw [List.length_map, List.length_map, List.length_take]; have : wd.cps.size = wd.length := rfl; omega), same_mut s2 (s1.free hD), ?_⟩
        rw [upd_same, List.take_add_one, e, List.map_append, List.map_append, dec_figs]
        rfl
      · rintro H2 ⟨s2, h2⟩
        have zs : wd.cps.size = (TL.tl wd).length := ltl
        rw [zs, List.take_length] at h2
        refine ⟨D, (TL.tl wd).map digB, rfl, SqL.of h2, ?_⟩
        rw [show ((TL.tl wd).map digB).all id = (TL.tl wd).all digB by rw [List.all_map]; rfl]
        cases al : (TL.tl wd).all digB with
        | true => exact ⟨_, rfl, iteF ⟨rfl, s2, by omega, by omega, rfl⟩⟩
        | false =>
          refine ⟨_, rfl, iteT (knon (.inl ?_) H2 s2)⟩
          cases numK wd with
          | none _ e => exact e
          | long _ e => exact e
          | sign _ _ _ e => exact e
          | lead _ _ _ e _ => exact e
          | good _ _ _ _ a _ _ _ _ _ => rw [a] at al; cases al
    · rw [decide_eq_false l12]
      refine iteT (knon (.inl ?_) H1 s1)
      cases numK wd with
      | none _ e => exact e
      | long _ e => exact e
      | sign _ _ _ e => exact e
      | lead _ _ _ e _ => exact e
      | good c r h h' _ _ _ _ _ _ => rw [ltl, h, List.length_cons] at l12; omega
  rintro _ H2 ⟨rfl, s2, l1, l2, al⟩
  cases numK wd with
  | none h _ => rw [ltl, h] at l1; simp at l1
  | long h _ => omega
  | sign _ _ a _ => rw [a] at al; cases al
  | lead d h _ e z =>
    obtain ⟨n, it, n0, n1, ne⟩ := z
    refine ⟨_, rfl, _, _, rfl, it, by omega, ?_⟩
    refine ⟨_, rfl, _, rfl, num_log n0 (by omega), _, rfl, rfl, _, rfl, ?_⟩
    rw [show decide (V.str (Str.ofString (toString n)) = V.str wd) = false from decide_eq_false fun z => ne (V.str.inj z).symm]
    exact iteF (knon (.inl e) H2 s2)
  | good c r h h' _ _ n0 n1 it se =>
    refine ⟨_, rfl, _, _, rfl, it, by omega, ?_⟩
    refine ⟨_, rfl, _, rfl, num_log n0 n1, _, rfl, rfl, _, rfl, ?_⟩
    rw [show decide (V.str (Str.ofString (toString (numB wd))) = V.str wd) = true from decide_eq_true (congrArg V.str se.symm)]
    refine iteT ⟨_, rfl, _, rfl, _, _, rfl, rfl, _, rfl, ?_⟩
    by_cases c : numB wd < u
    · rw [decide_eq_true c]
      have := k H2 s2
      unfold figV at this
      rw [if_pos ⟨n0, c⟩] at this
      exact iteT ⟨_, rfl, this⟩
    · rw [decide_eq_false c]
      exact iteF (knon (.inr (by omega)) H2 s2)
theorem okS_one {n : Nat} {z : Int} : okS n (some [z]) = false := by
  show (idxD (n : Nat) (.int z) && false && _) = false
  rw [Bool.and_false]
  rfl
theorem okS_idx {n : Nat} {z : Int} {r : List Int} (c : ¬ (0 ≤ z ∧ z < ((n : Nat) : Int))) : okS n (some (z :: r)) = false := by
  show ((decide (0 ≤ z) && decide (z < (n : Nat))) && _ && _) = false
  rw [← Bool.decide_and, decide_eq_false c]
  rfl
theorem okS_eq {n : Nat} {z : Int} {r : List Int} (c : 0 ≤ z ∧ z < ((n : Nat) : Int)) (ne : r ≠ []) : okS n (some (z :: r)) = (r.all (fun y => decide (0 ≤ y) && decide (y < 8)) && decide (z + (r.length : Nat) ≤ (n : Nat))) := by
  show ((decide (0 ≤ z) && decide (z < (n : Nat))) && (!(dvs r).isEmpty && (dvs r).all (idxD 8)) && decide (z + (((dvs r).length : Nat) : Int) ≤ (n : Nat))) = _
  rw [← Bool.decide_and, decide_eq_true c]
  unfold dvs
  rw [List.all_map, List.length_map, List.isEmpty_map]
  cases r with
  | nil => exact absurd rfl ne
  | cons _ _ => rfl
theorem cut_from2 {v u : V} {xs : List V} : cutV (v :: u :: xs) (some 2) none = xs := by
  unfold cutV
  have e1 : HT.sIx (v :: u :: xs).length 0 (some 2) = 2 := by
    unfold HT.sIx
    simp
  have e2 : HT.sIx (v :: u :: xs).length (v :: u :: xs).length none = (v :: u :: xs).length := rfl
  rw [e1, e2]
  simp
def fvs (r : List Str) : List V := r.map (figV 8)
theorem fvs_no (r : List Str) : inV .non (fvs r) = !(r.map numB).all (fun y => decide (0 ≤ y) && decide (y < 8)) := by
  induction r with
  | nil => rfl
  | cons w r ih =>
    show (eqV (figV 8 w) .non || inV .non (fvs r)) = _
    rw [ih, List.map_cons, List.all_cons, Bool.not_and]
    congr 1
    unfold figV
    by_cases c : 0 ≤ numB w ∧ numB w < 8
    · rw [if_pos c, decide_eq_true c.1, decide_eq_true c.2]
      rfl
    · rw [if_neg c, ← Bool.decide_and, decide_eq_false c]
      rfl
theorem fvs_ok {r : List Str} (h : (r.map numB).all (fun y => decide (0 ≤ y) && decide (y < 8)) = true) : fvs r = ivs (r.map numB) := by
  induction r with
  | nil => rfl
  | cons w r ih =>
    rw [List.map_cons, List.all_cons, Bool.and_eq_true, Bool.and_eq_true] at h
    show figV 8 w :: fvs r = .int (numB w) :: ivs (r.map numB)
    rw [ih h.2]
    unfold figV
    rw [if_pos ⟨of_decide_eq_true h.1.1, of_decide_eq_true h.1.2⟩]
theorem fvs_flat (r : List Str) : (fvs r).all flatV = true := List.all_eq_true.mpr fun x hx => by
  obtain ⟨w, _, rfl⟩ := List.mem_map.mp hx
  unfold figV
  split <;> rfl
def sp_row_of : Sp := fun vs H Q _ => ∃ (line : Str) (n : Nat), vs = [.str line, .int (n : Nat)] ∧ n ≤ 24 ∧ line.length ≤ 50000 ∧
  ∀ l H' xs, Same H H' → H l = none → H' l = some (.lst xs) → (if okS n (lineD line) = true then ∃ v, xs = [v] ∧ StepV H' v (stOf (lineD line)) else xs = []) → Q (.ref l) H'
theorem ok_row_of {f : Addr} {fd : FuncData} (F : Fun K "_law_row_of" "_law_row_of" s_l_row_of f fd) (T : Txt mg) (c_l_figures : Cal P w K mg base 1 "_law_figures" ["_law_word", "_law_under"] sp_figures) : FnOk P w K mg base CX0 2 f fd ["_law_line_here", "_law_many"] sp_row_of := by
  refine F.ok sc_l_row_of (fun vs H Q E h => ?_) (fun cdv A outer s H vs Q E hr h => ?_)
  · obtain ⟨_, _, rfl, _⟩ := h
    rfl
  obtain ⟨line, n, rfl, n24, ll, k⟩ := h
  refine ⟨_, (pss_cons (ps_if (pt_cmpR op_eq (pv 0) pe_str (nomark _))
      (pss_one (ps_ret (pe_lst' (pa_cons pe_non pa_nil))))
      pss_nil)
    (pss_cons (ps_set (i := 2) sc_l_row_of.nd rfl (Or.inl rfl) (pe_split (pv 0) pe_str))
    (pss_cons (ps_cut (ps_if (PW.pt (pw_or (pt_cmpR op_ne (pe_ix ix_seq' (pv 2) pe_int (fun _ _ => rfl)) pe_str (nomark _)) (pw_or (pt_cmpR op_lt (pe_callB call_len' (by rfl) T.len (by decide +kernel) (pa_cons (pv 2) pa_nil)) pe_int (nomark _)) (pw_or1 (pt_cmpR op_isN (pe_cal c_l_figures hr (pa_cons (pe_ix ix_seq' (pv 2) pe_int (fun _ _ => rfl)) (pa_cons (pv 1) pa_nil))) pe_non (nomark _))))))
      (pss_one (ps_ret (pe_lst' pa_nil)))
      pss_nil))
    (pss_cons (ps_par (i := 3) (j := 4) rfl sc_l_row_of.nd rfl rfl (by decide) rfl rfl (pa_cons (pe_callTy call_int_str (by rfl) T.int (by decide +kernel) (pa_cons (pe_ix ix_seq' (pv 2) pe_int (fun _ _ => rfl)) pa_nil)) (pa_cons (pe_lc (own := [("_law_word", 5)]) (g := (gName 5)) (tt := tYes) rfl sc_l_row_of.nd (pi_list (pe_slice sl_list' (pv 2) (po_some pe_int) po_none)) (blkOk_by (own := [("_law_word", 5)]) (N := N_l_row_of) (sc := defScope s_l_row_of) (by decide +kernel)) (fun _ _ _ _ _ => pg_name (i := 5) sc_l_row_of.nd rfl (Or.inl rfl)) (fun _ _ _ _ _ => pts_nil) (fun _ _ _ _ _ => (pe_cal c_l_figures hr (pa_cons (pv 5) (pa_cons pe_int pa_nil))))) pa_nil)) (by rfl))
    (pss_cons (ps_cut (ps_if (PW.pt (pw_or (pt_cmpR op_in_seq pe_non (pv 4) (by rfl)) (pw_or1 (pt_cmpR op_gt (pe_op op_add (pv 3) (pe_callB call_len' (by rfl) T.len (by decide +kernel) (pa_cons (pv 4) pa_nil))) (pv 1) (nomark _)))))
      (pss_one (ps_ret (pe_lst' pa_nil)))
      pss_nil))
    (pss_one (ps_ret (pe_lst' (pa_cons (pe_tup' (pa_cons (pv 3) (pa_cons (pe_callTy call_tuple' (by rfl) T.tuple (by decide +kernel) (pa_cons (pv 4) pa_nil)) pa_nil))) pa_nil))))))))), ?_⟩
  have kno : okS n (lineD line) = false → ∀ l H', Same H H' → H l = none → H' l = some (.lst []) → Q (.ref l) H' := fun e l H' s' nl hl => k l H' [] s' nl hl (by rw [e]; exact (if_neg Bool.false_ne_true).mpr rfl)
  by_cases eb : line = "barrier"
  · refine ⟨_, rfl, rfl, _, rfl, iteT' (decide_eq_true (congrArg V.str eb)) ⟨szr, fun l H1 n1 s1 h1 => k l H1 _ s1 n1 h1 ?_⟩⟩
    rw [show lineD line = none by unfold lineD; rw [if_pos eb]]
    exact (if_pos rfl).mpr ⟨_, rfl, rfl⟩
  have eD : lineD line = some (numsL "write" (Txt.split line " ")) := by unfold lineD numsB; rw [if_neg eb]
  refine ⟨_, rfl, rfl, _, rfl, ite2 (fun y => absurd (V.str.inj (of_decide_eq_true y)) eb) (fun _ => ?_)⟩
  refine ⟨_, rfl, ⟨_, rfl⟩, _, _, rfl, rfl, by decide +kernel, sz (by omega), fun p hp => ?_⟩
  have sp1 := PyProof.Rows.split_pos line " "
  have sp2 := PyProof.Rows.split_le line " "
  have pl : ∀ q ∈ Txt.split line " ", q.length ≤ line.length := fun q h => part_len h
  rw [eD] at kno k
  generalize Txt.split line " " = ps at sp1 sp2 pl kno k
  have s1 : Same H (upd H p (.lst (svs ps))) := same_new hp
  have h1 : (upd H p (.lst (svs ps))) p = some (.lst (svs ps)) := upd_same
  show gName 2 _ _ (upd H p (.lst (svs ps))) _
  generalize upd H p (.lst (svs ps)) = H1 at s1 h1
  cases ps with
  | nil => simp at sp1
  | cons w0 r =>
  refine ⟨fun σ' H' => σ' = [some (.str line), some (.int (n : Nat)), some (.ref p), none, none, none] ∧ Same H1 H' ∧ ∃ w1 r2, r = w1 :: r2 ∧ r2 ≠ [] ∧ w0 = "write" ∧ 0 ≤ numB w1 ∧ numB w1 < (n : Nat), ?_, ?_⟩
  · refine ⟨_, rfl, p, _, _, .str w0, rfl, rfl, .inl h1, atI_nat (j := 0) rfl, rfl, _, rfl, ?_⟩
    by_cases ew : w0 = "write"
    · rw [show decide (V.str w0 = V.str "write") = true from decide_eq_true (congrArg V.str ew)]
      refine iteF ⟨_, rfl, p, _, rfl, .inl h1, _, _, rfl, rfl, _, rfl, ?_⟩
      refine ite2 (fun y => ?_) (fun y => ?_)
      · have := of_decide_eq_true y
        refine ⟨szr, fun l H2 n2 s2 h2 => kno ?_ l H2 (s1.trans s2) (s1.free n2) h2⟩
        show okS n (some (if w0 = "write" then r.map numB else [])) = false
        rw [if_pos ew]
        rw [svs_len, List.length_cons] at this
        match r, this with
        | [], _ => rfl
        | [w1], _ => exact okS_one
        | _ :: _ :: _, q => simp at q; omega
      · have q : ¬ ((svs (w0 :: r)).length < 3) := fun z => y (decide_eq_true (by omega))
        rw [svs_len, List.length_cons] at q
        match r, q with
        | [], q => simp at q
        | [_], q => simp at q
        | w1 :: w2 :: r2, q =>
          have l1 := pl w1 (by simp)
          refine ⟨_, rfl, p, _, _, .str w1, rfl, rfl, .inl h1, atI_nat (j := 1) rfl, _, rfl, _, _, rfl, by omega, fun H2 s2 => ⟨rfl, _, rfl, ?_⟩⟩
          unfold figV
          by_cases c : 0 ≤ numB w1 ∧ numB w1 < ((n : Nat) : Int)
          · rw [if_pos c]
            exact iteF ⟨rfl, s2, w1, w2 :: r2, rfl, by simp, ew, c.1, c.2⟩
          · rw [if_neg c]
            refine iteT ⟨szr, fun l H3 n3 s3 h3 => kno ?_ l H3 (s1.trans (s2.trans s3)) (s1.free (s2.free n3)) h3⟩
            show okS n (some (if w0 = "write" then (w1 :: w2 :: r2).map numB else [])) = false
            rw [if_pos ew]
            exact okS_idx c
    · rw [show decide (V.str w0 = V.str "write") = false from decide_eq_false fun z => ew (V.str.inj z)]
      refine iteT ⟨szr, fun l H2 n2 s2 h2 => kno ?_ l H2 (s1.trans s2) (s1.free n2) h2⟩
      show okS n (some (if w0 = "write" then r.map numB else [])) = false
      rw [if_neg ew]
      rfl
  rintro _ H2 ⟨rfl, s2, w1, r2, rfl, r2n, ew, f0, f1⟩
  have eN : numsL "write" (w0 :: w1 :: r2) = numB w1 :: r2.map numB := by
    show (if w0 = "write" then (w1 :: r2).map numB else []) = _
    rw [if_pos ew]
    rfl
  rw [eN] at kno k
  have it : PySem.intText? w1 = some (numB w1) := by
    cases numK w1 with
    | none _ e => omega
    | long _ e => omega
    | sign _ _ _ e => omega
    | lead _ _ _ e _ => omega
    | good _ _ _ _ _ _ _ _ i _ => exact i
  have w1l : w1.length ≤ 640 := by
    cases numK w1 with
    | none _ e => omega
    | long _ e => omega
    | sign _ _ _ e => omega
    | lead _ _ _ e _ => omega
    | good _ _ h h' _ _ _ _ _ _ => rw [TL.len_tl, h, List.length_cons]; omega
  have h2 := s2 _ _ h1
  refine ⟨_, rfl, p, _, _, .str w1, rfl, rfl, .inl h2, atI_nat (j := 1) rfl, _, _, rfl, it, w1l, ?_⟩
  refine ⟨_, rfl, 2, rfl, p, _, rfl, h2, fun q H3 n3 s3 h3 => ?_⟩
  have h3' : H3 q = some (.lst (svs r2)) := by
    rw [h3]
    congr 2
    exact cut_from2
  have S3 := s1.trans (s2.trans s3)
  refine ⟨q, rfl, ⟨_, SqL.of h3'⟩, fun D hD => lc_list (K := K) (a := q) (xs := svs r2) (fun i H' => Same H3 H' ∧ H' D = some (.lst (fvs (r2.take i)))) ?_ ?_ ?_ ?_⟩
  · exact ⟨same_new hD, upd_same⟩
  · rintro i H' _ ⟨s4, _⟩
    exact SqL.of (s4 _ _ h3')
  · rintro i y H' hx ⟨s4, h4⟩
    have il : i < r2.length := by
      have := (List.getElem?_eq_some_iff.mp hx).1
      rw [svs_len] at this
      exact this
    have e : (svs r2)[i]? = some (.str r2[i]) := by
      unfold svs
      rw [List.getElem?_map, List.getElem?_eq_getElem il]
      rfl
    rw [e] at hx
    cases hx
    have hz := pl r2[i] (List.mem_cons_of_mem _ (List.mem_cons_of_mem _ (List.getElem_mem il)))
    have fl : (fvs (r2.take i)).length = (r2.take i).length := List.length_map _
    refine ⟨rfl, _, rfl, _, _, rfl, by omega, fun H5 s5 => ⟨_, s5 _ _ h4, szl (by rw [fl, List.length_take]; simp only [List.length_cons] at sp2; omega), same_mut (s4.trans s5) hD, ?_⟩⟩
    rw [upd_same, List.take_add_one, List.getElem?_eq_getElem il]
    unfold fvs
    rw [List.map_append]
    rfl
  · rintro H4 ⟨s4, h4⟩
    rw [svs_len, List.take_length] at h4
    have S4 := S3.trans s4
    have fl : (fvs r2).length = r2.length := List.length_map _
    refine ⟨_, _, rfl, fun σ' H' => σ' = [some (.str line), some (.int (n : Nat)), some (.ref p), some (.int (numB w1)), some (.ref D), none] ∧ Same H4 H' ∧ okS n (some (numB w1 :: r2.map numB)) = true, ?_, ?_⟩
    · refine ⟨_, rfl, D, _, rfl, .inl (SqL.of h4), rfl, fvs_flat r2, _, rfl, ?_⟩
      have oe := okS_eq (n := n) (z := numB w1) (r := r2.map numB) ⟨f0, f1⟩ (by simpa using r2n)
      show if inV .non (fvs r2) = true then _ else _
      rw [fvs_no]
      cases al : (r2.map numB).all (fun y => decide (0 ≤ y) && decide (y < 8)) with
      | false =>
        rw [al] at oe
        exact iteT ⟨szr, fun l H5 n5 s5 h5 => kno oe l H5 (S4.trans s5) (S4.free n5) h5⟩
      | true =>
        rw [al, List.length_map] at oe
        refine iteF ⟨_, rfl, _, rfl, D, _, rfl, .inl h4, _, _, rfl, rfl, _, rfl, _, _, rfl, rfl, _, rfl, ?_⟩
        rw [fl]
        by_cases c : numB w1 + (r2.length : Nat) ≤ ((n : Nat) : Int)
        · rw [decide_eq_true c] at oe
          rw [decide_eq_false (by omega)]
          exact iteF ⟨rfl, Same.refl _, oe⟩
        · rw [decide_eq_false c] at oe
          rw [decide_eq_true (by omega)]
          exact iteT ⟨szr, fun l H5 n5 s5 h5 => kno oe l H5 (S4.trans s5) (S4.free n5) h5⟩
    rintro _ H5 ⟨rfl, s5, ok⟩
    have oe := okS_eq (n := n) (z := numB w1) (r := r2.map numB) ⟨f0, f1⟩ (by simpa using r2n)
    rw [ok] at oe
    have al := (Bool.and_eq_true_iff.mp oe.symm).1
    have h5 := s5 _ _ h4
    rw [fvs_ok al] at h5
    refine ⟨_, rfl, _, rfl, D, _, rfl, .inl h5, fun b H6 s6 h6 => ⟨szr, fun tp H7 n7 s7 h7 => ⟨szr, fun l H8 n8 s8 h8 => ?_⟩⟩⟩
    have S7 := S4.trans (s5.trans (s6.trans s7))
    refine k l H8 _ (S7.trans s8) (S7.free n8) h8 ?_
    rw [ok]
    exact (if_pos rfl).mpr ⟨_, rfl, tp, b, rfl, s8 _ _ h7, s8 _ _ (s7 _ _ h6)⟩
end
end Af

set_option Elab.async false
set_option linter.all false
set_option maxRecDepth 100000
set_option maxHeartbeats 4000000
namespace Af
open PySem L2
abbrev s_l_read : Stmt := top 39
abbrev N_l_read : List Str := ["_law_thing", "_law_lines", "_law_words", "_law_span_here", "_law_cells_here", "_law_steps_here", "_law_k", "_law_row", "_law_word"]
theorem sc_l_read : FnScope N_l_read ["_law_thing"] (defScope s_l_read) := ⟨rfl, rfl, rfl, by decide +kernel, rfl, by decide +kernel, by decide +kernel⟩

structure PlanT (H : Hp) (v : V) (pl : Pl) : Prop where
  ex : ∃ (a ca sa : Addr) (xs : List V), v = .ref a ∧ H a = some (.tup [.ref ca, .int pl.w, .ref sa]) ∧ H ca = some (.tup (ivs pl.cs)) ∧ H sa = some (.lst xs) ∧ Paired (StepV H) xs pl.sts
def sp_read (K : PySem.W.Frag) : Sp := fun vs H Q _ => (∃ (t : Str), vs = [.str t] ∧ t.length ≤ 50000 ∧
  match readT t with
  | .inl k => ∀ H', Same H H' → Q (.int (k : Nat)) H'
  | .inr pl => ∀ v H', Same H H' → PlanT H' v pl → OkP pl → Q v H') ∨
  (∃ (x : V) (n : String), vs = [x] ∧ Ty K H x n ∧ isB n "str" = false ∧ ∀ H', Same H H' → Q (.int 0) H')
def widthL (ps : List Str) : Int := match numsL "plan" ps with
  | [z] => z
  | _ => -1
theorem widthL_no : ∀ {ps : List Str}, (¬ ∃ w1 : Str, ps = [("plan" : Str), w1]) → widthL ps = -1
  | [], _ => rfl
  | w0 :: r, h => by
    show (match (if w0 = "plan" then r.map numB else []) with
      | [z] => z
      | _ => -1) = -1
    by_cases e : w0 = "plan"
    · rw [if_pos e]
      match r, h with
      | [], _ => rfl
      | [w1], h => exact absurd ⟨w1, by rw [e]⟩ h
      | _ :: _ :: _, _ => rfl
    · rw [if_neg e]
theorem numB_int {w : Str} (h : 0 ≤ numB w) : PySem.intText? w = some (numB w) ∧ w.length ≤ 640 := by
  cases numK w with
  | none _ e => omega
  | long _ e => omega
  | sign _ _ _ e => omega
  | lead _ _ _ e _ => omega
  | good _ _ h h' _ _ _ _ i _ => exact ⟨i, by rw [TL.len_tl, h, List.length_cons]; omega⟩
theorem baseOk_eq {cs : List Int} : baseOk cs = (!cs.isEmpty && cs.all (fun z => decide (0 ≤ z) && decide (z < 8)) && decide (cs.length ≤ 24)) := rfl
theorem fig_in {w : Str} : inV (figV 25 w) [.non, .int 0] = !widthOk (numB w) := by
  unfold figV widthOk
  by_cases c : 0 ≤ numB w ∧ numB w < 25
  · rw [if_pos c]
    show (eqV .non (.int (numB w)) || (((0 : Int) == numB w) || false)) = _
    by_cases z : numB w = 0
    · rw [z]; rfl
    · rw [show ((0 : Int) == numB w) = false by simp; omega, decide_eq_true (by omega), decide_eq_true (by omega)]
      rfl
  · rw [if_neg c]
    show true = _
    by_cases a : 1 ≤ numB w
    · rw [decide_eq_false (show ¬ numB w ≤ 24 by omega), Bool.and_false]; rfl
    · rw [decide_eq_false a]; rfl
section
variable {P : Program} {w : World} {K : PySem.W.Frag} {mg : Str → Option Value} {base : Heap}
theorem ok_read {f : Addr} {fd : FuncData} (F : Fun K "_law_read" "_law_read" s_l_read f fd) (T : Txt mg) (t_str : mg "str" = none) (c_l_figures : Cal P w K mg base 1 "_law_figures" ["_law_word", "_law_under"] sp_figures)
    (c_l_row_of : Cal P w K mg base 2 "_law_row_of" ["_law_line_here", "_law_many"] sp_row_of) (c_l_parts : Cal P w K mg base 2 "_law_parts" ["_law_plan_here"] sp_partsX) : FnOk P w K mg base CX0 3 f fd ["_law_thing"] (sp_read K) := by
  refine F.ok sc_l_read (fun vs H Q E h => ?_) (fun cdv A outer s H vs Q E hr h => ?_)
  · rcases h with ⟨_, rfl, _⟩ | ⟨_, _, rfl, _⟩ <;> rfl
  refine ⟨_, (pss_cons (ps_if (pt_not (pt_val (pe_callB call_isi' (by rfl) T.isinstance (by decide +kernel) (pa_cons (pv 0) (pa_cons (pe_bltn (v := .ty "str") (by rfl) t_str (by decide +kernel) rfl) pa_nil)))))
      (pss_one (ps_ret pe_int))
      pss_nil)
    (pss_cons (ps_set (i := 1) sc_l_read.nd rfl (Or.inl rfl) (pe_split (pv 0) pe_str))
    (pss_cons (ps_set (i := 2) sc_l_read.nd rfl (Or.inl rfl) (pe_split (pe_ix ix_seq' (pv 1) pe_int (fun _ _ => rfl)) pe_str))
    (pss_cons (ps_cut (ps_if (PW.pt (pw_or (pt_cmpR op_ne (pe_callB call_len' (by rfl) T.len (by decide +kernel) (pa_cons (pv 2) pa_nil)) pe_int (nomark _)) (pw_or (pt_cmpR op_ne (pe_ix ix_seq' (pv 2) pe_int (fun _ _ => rfl)) pe_str (nomark _)) (pw_or1 (pt_cmpR op_in_seq (pe_cal c_l_figures hr (pa_cons (pe_ix ix_seq' (pv 2) pe_int (fun _ _ => rfl)) (pa_cons pe_int pa_nil))) (pe_tup' (pa_cons pe_non (pa_cons pe_int pa_nil))) (by rfl))))))
      (pss_one (ps_ret pe_int))
      pss_nil))
    (pss_cons (ps_if (pt_cmpR op_eq (pe_callB call_len' (by rfl) T.len (by decide +kernel) (pa_cons (pv 1) pa_nil)) pe_int (nomark _))
      (pss_one (ps_ret pe_int))
      pss_nil)
    (pss_cons (ps_par (i := 3) (j := 2) rfl sc_l_read.nd rfl rfl (by decide) rfl rfl (pa_cons (pe_callTy call_int_str (by rfl) T.int (by decide +kernel) (pa_cons (pe_ix ix_seq' (pv 2) pe_int (fun _ _ => rfl)) pa_nil)) (pa_cons (pe_split (pe_ix ix_seq' (pv 1) pe_int (fun _ _ => rfl)) pe_str) pa_nil)) (by rfl))
    (pss_cons (ps_set (i := 4) sc_l_read.nd rfl (Or.inl rfl) (pe_callTy call_tuple' (by rfl) T.tuple (by decide +kernel) (pa_cons (pe_lc (own := [("_law_word", 8)]) (g := (gName 8)) (tt := tYes) rfl sc_l_read.nd (pi_list (pe_slice sl_list' (pv 2) (po_some pe_int) po_none)) (blkOk_by (own := [("_law_word", 8)]) (N := N_l_read) (sc := defScope s_l_read) (by decide +kernel)) (fun _ _ _ _ _ => pg_name (i := 8) sc_l_read.nd rfl (Or.inl rfl)) (fun _ _ _ _ _ => pts_nil) (fun _ _ _ _ _ => (pe_cal c_l_figures hr (pa_cons (pv 8) (pa_cons pe_int pa_nil))))) pa_nil)))
    (pss_cons (ps_cut (ps_if (PW.pt (pw_or (pt_cmpR op_ne (pe_ix ix_seq' (pv 2) pe_int (fun _ _ => rfl)) pe_str (nomark _)) (pw_or (pt_cmpR op_in_seq pe_non (pv 4) (by rfl)) (pw_or1 (pt_not (pt_chain op_le op_le pe_int (pe_callB call_len' (by rfl) T.len (by decide +kernel) (pa_cons (pv 4) pa_nil)) pe_int))))))
      (pss_one (ps_ret pe_int))
      pss_nil))
    (pss_cons (ps_set (i := 5) sc_l_read.nd rfl (Or.inl rfl) (pe_lst' pa_nil))
    (pss_cons (ps_for PassesOwn.never rfl (pi_range2 rfl T.range (pa_cons pe_int (pa_cons (pe_callB call_len' (by rfl) T.len (by decide +kernel) (pa_cons (pv 1) pa_nil)) pa_nil))) (pg_name (i := 6) sc_l_read.nd rfl (Or.inl rfl))
      (pss_cons (ps_set (i := 7) sc_l_read.nd rfl (Or.inl rfl) (pe_cal c_l_row_of hr (pa_cons (pe_ix ix_seq' (pv 1) (pv 6) (fun _ _ => rfl)) (pa_cons (pe_callB call_len' (by rfl) T.len (by decide +kernel) (pa_cons (pv 4) pa_nil)) pa_nil))))
    (pss_cons (ps_set (i := 5) sc_l_read.nd rfl (Or.inl rfl) (pe_op op_cat' (pv 5) (pv 7)))
    (pss_one (ps_if (PW.pt (pw_or (pt_cmpR (op_eqD hr.units) (pv 7) (pe_lst' pa_nil) (nomark _)) (pw_or (pt_cmpR op_gt (pe_callB call_len' (by rfl) T.len (by decide +kernel) (pa_cons (pv 5) pa_nil)) pe_int (nomark _)) (pw_or1 (pt_cmpR op_gt (pe_callB call_len' (by rfl) T.len (by decide +kernel) (pa_cons (pe_cal c_l_parts hr (pa_cons (pe_tup' (pa_cons (pv 4) (pa_cons (pv 3) (pa_cons (pv 5) pa_nil)))) pa_nil)) pa_nil)) pe_int (nomark _))))))
      (pss_one (ps_ret (pv 6)))
      pss_nil)))))
    (pss_one (ps_ret (pe_tup' (pa_cons (pv 4) (pa_cons (pv 3) (pa_cons (pv 5) pa_nil)))))))))))))))), ?_⟩
  rcases h with ⟨t, rfl, lt, k⟩ | ⟨x, n, rfl, ty, ns, k⟩
  · have lsp := PyProof.Rows.split_pos t "\n"
    have lsl := PyProof.Rows.split_le t "\n"
    have lb : ∀ l ∈ Txt.split t "\n", l.length ≤ 50000 := fun l h => Nat.le_trans (part_len h) lt
    refine ⟨_, rfl, _, "str", "str", rfl, ⟨.str _, by decide, fun _ _ _ e => by cases e⟩, by decide, _, rfl, iteF ?_⟩
    refine ⟨_, rfl, ⟨_, rfl⟩, _, _, rfl, rfl, by decide +kernel, sz (by omega), fun p hp => ?_⟩
    unfold readT at k
    generalize Txt.split t "\n" = ls at lsp lsl lb k ⊢
    cases ls with
    | nil => simp at lsp
    | cons l0 rest =>
    have s1 : Same H (upd H p (.lst (svs (l0 :: rest)))) := same_new hp
    have h1 : (upd H p (.lst (svs (l0 :: rest)))) p = some (.lst (svs (l0 :: rest))) := upd_same
    show gName 1 _ _ (upd H p (.lst (svs (l0 :: rest)))) _
    generalize upd H p (.lst (svs (l0 :: rest))) = H1 at s1 h1
    have k : match (if widthOk (widthI l0) = false then (.inl 0 : Nat ⊕ Pl) else if (l0 :: rest).length = 1 then .inl 1 else if baseOk (numsB "base" (rest.headD "")) = false then .inl 1 else match readS (widthI l0) (numsB "base" (rest.headD "")).length [] 2 (rest.drop 1) with
        | .inl k => .inl k
        | .inr sts => .inr ⟨numsB "base" (rest.headD ""), widthI l0, sts⟩) with
      | .inl k => ∀ H', Same H H' → Q (.int (k : Nat)) H'
      | .inr pl => ∀ v H', Same H H' → PlanT H' v pl → OkP pl → Q v H' := by cases rest <;> exact k
    have ll0 := lb l0 (by simp)
    refine ⟨_, rfl, p, _, _, .str l0, rfl, rfl, .inl h1, atI_nat (j := 0) rfl, ⟨_, rfl⟩, _, _, rfl, rfl, by decide +kernel, sz (by omega), fun q hq => ?_⟩
    have pp := PyProof.Rows.split_pos l0 " "
    have plen : ∀ x ∈ Txt.split l0 " ", x.length ≤ l0.length := fun x h => part_len h
    have ew : widthI l0 = widthL (Txt.split l0 " ") := rfl
    generalize Txt.split l0 " " = ps at pp plen ew ⊢
    have s2 : Same H1 (upd H1 q (.lst (svs ps))) := same_new hq
    have h2 : (upd H1 q (.lst (svs ps))) q = some (.lst (svs ps)) := upd_same
    show gName 2 _ _ (upd H1 q (.lst (svs ps))) _
    generalize upd H1 q (.lst (svs ps)) = H2 at s2 h2
    have S2 := s1.trans s2
    have kw : widthOk (widthI l0) = false → ∀ H', Same H H' → Q (.int 0) H' := fun e => by
      rw [if_pos e] at k
      exact k
    refine ⟨fun σ' H' => σ' = [some (.str t), some (.ref p), some (.ref q), none, none, none, none, none, none] ∧ Same H2 H' ∧ widthOk (widthI l0) = true ∧ ∃ w0 w1, ps = [w0, w1] ∧ widthI l0 = numB w1, ?_, ?_⟩
    · refine ⟨_, rfl, q, _, rfl, .inl h2, rfl, _, rfl, ?_⟩
      by_cases e2 : ps.length = 2
      · rw [show decide (V.int ((svs ps).length : Nat) = V.int 2) = true from decide_eq_true (by rw [svs_len, e2]; rfl)]
        match ps, e2, plen, ew, h2 with
        | [w0, w1], _, plen, ew, h2 =>
        refine iteF ⟨_, rfl, q, _, _, .str w0, rfl, rfl, .inl h2, atI_nat (j := 0) rfl, rfl, _, rfl, ?_⟩
        by_cases e0 : w0 = "plan"
        · rw [show decide (V.str w0 = V.str "plan") = true from decide_eq_true (congrArg V.str e0)]
          subst e0
          have l1 := plen w1 (by simp)
          have ew : widthI l0 = numB w1 := ew
          refine iteF ⟨_, rfl, q, _, _, .str w1, rfl, rfl, .inl h2, atI_nat (j := 1) rfl, _, _, rfl, by omega, fun H3 s3 => ⟨szr, fun tp H4 n4 s4 h4 => ⟨tp, _, rfl, .inr (SqT.of h4), ?_, by decide, _, rfl, ?_⟩⟩⟩
          · unfold figV
            split <;> rfl
          show if inV (figV 25 w1) [.non, .int 0] = true then _ else _
          rw [fig_in, ← ew]
          cases okw : widthOk (widthI l0) with
          | false => exact iteT (kw okw H4 (S2.trans (s3.trans s4)))
          | true => exact iteF ⟨rfl, s3.trans s4, rfl, _, _, rfl, ew⟩
        · rw [show decide (V.str w0 = V.str "plan") = false from decide_eq_false fun z => e0 (V.str.inj z)]
          refine iteT (kw ?_ H2 S2)
          rw [ew, widthL_no (fun ⟨w, z⟩ => by cases z; exact e0 rfl)]
          rfl
      · rw [show decide (V.int ((svs ps).length : Nat) = V.int 2) = false from decide_eq_false fun z => e2 (by have := V.int.inj z; rw [svs_len] at this; omega)]
        refine iteT (kw ?_ H2 S2)
        rw [ew, widthL_no (fun ⟨w, z⟩ => e2 (by rw [z]; rfl))]
        rfl
    rintro _ H3 ⟨rfl, s3, okw, w0, w1, rfl, ew'⟩
    rw [if_neg (by rw [okw]; decide)] at k
    obtain ⟨wd1, wd24⟩ := width_ok' okw
    have h1' := s3 _ _ (s2 _ _ h1)
    have h2' := s3 _ _ h2
    have S3 := S2.trans s3
    obtain ⟨it, w1l⟩ := numB_int (w := w1) (by omega)
    refine ⟨_, rfl, p, _, rfl, .inl h1', rfl, _, rfl, ?_⟩
    cases rest with
    | nil =>
      rw [if_pos (show ([l0] : List Str).length = 1 from rfl)] at k
      exact iteT' (by rfl) (k H3 S3)
    | cons l1 rest =>
    rw [if_neg (by simp)] at k
    have k : match (if baseOk (numsB "base" l1) = false then (.inl 1 : Nat ⊕ Pl) else match readS (widthI l0) (numsB "base" l1).length [] 2 rest with
        | .inl k => .inl k
        | .inr sts => .inr ⟨numsB "base" l1, widthI l0, sts⟩) with
      | .inl k => ∀ H', Same H H' → Q (.int (k : Nat)) H'
      | .inr pl => ∀ v H', Same H H' → PlanT H' v pl → OkP pl → Q v H' := k
    refine ite2 (fun y => by have := V.int.inj (of_decide_eq_true y); rw [svs_len] at this; simp at this; omega) (fun _ => ?_)
    have lb1 := lb l1 (by simp)
    refine ⟨_, rfl, q, _, _, .str w1, rfl, rfl, .inl h2', atI_nat (j := 1) rfl, _, _, rfl, it, w1l, _, rfl, p, _, _, .str l1, rfl, rfl, .inl h1', atI_nat (j := 1) rfl, ⟨_, rfl⟩, _, _, rfl, rfl, by decide +kernel, sz (by omega), fun q1 hq1 => ⟨_, _, rfl, ?_⟩⟩
    have pp1 := PyProof.Rows.split_pos l1 " "
    have ple1 := PyProof.Rows.split_le l1 " "
    have plen1 : ∀ x ∈ Txt.split l1 " ", x.length ≤ l1.length := fun x h => part_len h
    have eb : numsB "base" l1 = numsL "base" (Txt.split l1 " ") := rfl
    generalize Txt.split l1 " " = ps1 at pp1 ple1 plen1 eb ⊢
    have s4 : Same H3 (upd H3 q1 (.lst (svs ps1))) := same_new hq1
    have h4 : (upd H3 q1 (.lst (svs ps1))) q1 = some (.lst (svs ps1)) := upd_same
    show tSeq _ _ _ _ (upd H3 q1 (.lst (svs ps1)))
    generalize upd H3 q1 (.lst (svs ps1)) = H4 at s4 h4
    cases ps1 with
    | nil => simp at pp1
    | cons v0 r =>
    refine ⟨_, rfl, 1, rfl, q1, _, rfl, h4, fun q2 H5 n5 s5 h5 => ?_⟩
    have h5' : H5 q2 = some (.lst (svs r)) := by
      rw [h5]
      congr 2
      exact cut_from1
    have S5 := S3.trans (s4.trans s5)
    refine ⟨q2, rfl, ⟨_, SqL.of h5'⟩, fun D hD => lc_list (K := K) (a := q2) (xs := svs r) (fun i H' => Same H5 H' ∧ H' D = some (.lst (fvs (r.take i)))) ?_ ?_ ?_ ?_⟩
    · exact ⟨same_new hD, upd_same⟩
    · rintro i H' _ ⟨s6, _⟩
      exact SqL.of (s6 _ _ h5')
    · rintro i y H' hx ⟨s6, h6⟩
      have il : i < r.length := by
        have := (List.getElem?_eq_some_iff.mp hx).1
        rw [svs_len] at this
        exact this
      have e : (svs r)[i]? = some (.str r[i]) := by
        unfold svs
        rw [List.getElem?_map, List.getElem?_eq_getElem il]
        rfl
      rw [e] at hx
      cases hx
      have hz := plen1 r[i] (List.mem_cons_of_mem _ (List.getElem_mem il))
      have fl : (fvs (r.take i)).length = (r.take i).length := List.length_map _
      refine ⟨rfl, _, rfl, _, _, rfl, by omega, fun H7 s7 => ⟨_, s7 _ _ h6, szl (by rw [fl, List.length_take]; simp only [List.length_cons] at ple1; omega), same_mut (s6.trans s7) hD, ?_⟩⟩
      rw [upd_same, List.take_add_one, List.getElem?_eq_getElem il]
      unfold fvs
      rw [List.map_append]
      rfl
    rintro H6 ⟨s6, h6⟩
    rw [svs_len, List.take_length] at h6
    have fl : (fvs r).length = r.length := List.length_map _
    refine ⟨D, _, rfl, .inl h6, fun b H7 s7 h7 => ?_⟩
    have S7 := S5.trans (s6.trans s7)
    have kb : baseOk (numsB "base" l1) = false → ∀ H', Same H H' → Q (.int 1) H' := fun e => by
      rw [if_pos e] at k
      exact k
    refine ⟨fun σ' H' => σ' = [some (.str t), some (.ref p), some (.ref q1), some (.int (numB w1)), some (.ref b), none, none, none, none] ∧ Same H7 H' ∧ baseOk (numsB "base" l1) = true ∧ fvs r = ivs (numsB "base" l1), ?_, ?_⟩
    · have h4' := s7 _ _ (s6 _ _ (s5 _ _ h4))
      refine ⟨_, rfl, q1, _, _, .str v0, rfl, rfl, .inl h4', atI_nat (j := 0) rfl, rfl, _, rfl, ?_⟩
      by_cases e0 : v0 = "base"
      · rw [show decide (V.str v0 = V.str "base") = true from decide_eq_true (congrArg V.str e0)]
        have eb : numsB "base" l1 = r.map numB := by rw [eb]; show (if v0 = "base" then _ else _) = _; rw [if_pos e0]
        rw [eb] at kb ⊢
        refine iteF ⟨_, rfl, b, _, rfl, .inr (SqT.of h7), rfl, fvs_flat r, _, rfl, ?_⟩
        show if inV .non (fvs r) = true then _ else _
        rw [fvs_no]
        rw [baseOk_eq] at kb ⊢
        cases al : (r.map numB).all (fun y => decide (0 ≤ y) && decide (y < 8)) with
        | false => exact iteT (kb (by rw [al, Bool.and_false]; rfl) H7 S7)
        | true =>
          refine iteF ⟨_, rfl, b, _, rfl, .inr h7, _, _, rfl, rfl, _, rfl, ?_⟩
          rw [al, Bool.and_true] at kb
          rw [Bool.and_true, fl]
          have il : (r.map numB).isEmpty = r.isEmpty := List.isEmpty_map
          by_cases g1 : 1 ≤ r.length
          · have ie : r.isEmpty = false := by cases r with
              | nil => simp at g1
              | cons _ _ => rfl
            rw [decide_eq_true (show (1 : Int) ≤ (r.length : Nat) by omega)]
            refine iteT ⟨_, _, rfl, rfl, _, rfl, ?_⟩
            by_cases g2 : r.length ≤ 24
            · rw [decide_eq_true (show ((r.length : Nat) : Int) ≤ 24 by omega)]
              exact iteF ⟨rfl, Same.refl _, by rw [il, ie, List.length_map, decide_eq_true g2]; rfl, fvs_ok al⟩
            · rw [decide_eq_false (show ¬ ((r.length : Nat) : Int) ≤ 24 by omega)]
              exact iteT (kb (by rw [List.length_map, decide_eq_false g2, Bool.and_false]) H7 S7)
          · have ie : r.isEmpty = true := by cases r with
              | nil => rfl
              | cons _ _ => simp at g1
            rw [decide_eq_false (show ¬ (1 : Int) ≤ (r.length : Nat) by omega)]
            exact iteF ⟨_, rfl, iteT (kb (by rw [il, ie]; rfl) H7 S7)⟩
      · rw [show decide (V.str v0 = V.str "base") = false from decide_eq_false fun z => e0 (V.str.inj z)]
        have eb : numsB "base" l1 = [] := by rw [eb]; show (if v0 = "base" then _ else _) = _; rw [if_neg e0]
        rw [eb] at kb
        exact iteT (kb rfl H7 S7)
    rintro _ H8 ⟨rfl, s8, okb, efv⟩
    rw [if_neg (by rw [okb]; decide)] at k
    obtain ⟨c1, c24, cb⟩ := base_ok okb
    rw [efv] at h7
    have S8 := S7.trans s8
    have hb8 := s8 _ _ h7
    have hp8 : H8 p = some (.lst (svs (l0 :: l1 :: rest))) := s8 _ _ (s7 _ _ (s6 _ _ (s5 _ _ (s4 _ _ h1'))))
    clear h6 h5' h5 h4 h2' h2 hD hq1 hq hp s4 s5 s6 s7 s8 S7 S5 S3 S2 s3 s2 kb efv
    generalize numsB "base" l1 = cs at *
    rw [← ew'] 
    generalize widthI l0 = wd at *
    refine ⟨szr, fun sl0 H9 n9 s9 h9 => ?_⟩
    have ll : (svs (l0 :: l1 :: rest)).length = rest.length + 2 := by rw [svs_len]; rfl
    refine ⟨_, rfl, p, _, rfl, .inl (s9 _ _ hp8), 2, _, rfl, ⟨by omega, by omega, by simp only [List.length_cons] at lsl; omega, by simp only [List.length_cons] at lsl; omega⟩, for_range (lo := 2) (fun i σ' H' => ∃ sl xs sts v6 v7, σ' = [some (.str t), some (.ref p), some (.ref q1), some (.int wd), some (.ref b), some (.ref sl), v6, v7, none] ∧ Same H8 H' ∧ H' sl = some (.lst xs) ∧ Paired (StepV H') xs sts ∧ sts.length ≤ 40 ∧ (∀ x ∈ sts, OkS cs.length x) ∧ (allP wd 0 sts).length ≤ 40 ∧ readS wd cs.length [] 2 rest = readS wd cs.length sts (2 + i) (rest.drop i)) ?_ ?_ ?_⟩
    · exact ⟨sl0, [], [], _, _, rfl, s9, h9, .nil, by simp, (fun _ h => by cases h), by show 0 ≤ 40; decide, rfl⟩
    · rintro i σ' G hi ⟨sl, xs, sts, v6, v7, rfl, sG, hsl, hpS, sl40, sok, sp40, inv⟩
      rw [ll] at hi
      have il : i < rest.length := by omega
      have dr : rest.drop i = rest[i] :: rest.drop (i + 1) := List.drop_eq_getElem_cons il
      have gl : rest[i]? = some rest[i] := List.getElem?_eq_getElem il
      generalize rest[i] = line at dr gl
      have ha : atI (svs (l0 :: l1 :: rest)) (2 + (i : Int)) = some (.str line) := by
        rw [show (2 : Int) + (i : Int) = ((i + 2 : Nat) : Int) by omega]
        refine atI_nat ?_
        show ((rest.map V.str))[i]? = _
        rw [List.getElem?_map, gl]
        rfl
      have mem := List.mem_of_getElem? gl
      have lbl := lb line (by simp [mem])
      rw [dr] at inv
      have inv : readS wd cs.length [] 2 rest = if (okS cs.length (lineD line) && (decide ((sts ++ [stOf (lineD line)]).length ≤ 40) && decide ((allP wd 0 (sts ++ [stOf (lineD line)])).length ≤ 40))) = true then readS wd cs.length (sts ++ [stOf (lineD line)]) (2 + i + 1) (rest.drop (i + 1)) else .inl (2 + i) := inv
      have xl := paired_len hpS
      have kE : readS wd cs.length [] 2 rest = .inl (2 + i) → ∀ H', Same H H' → Q (.int (2 + (i : Int))) H' := fun e H' s' => by
        rw [e] at k
        exact k H' s'
      refine ⟨_, rfl, _, rfl, p, _, _, _, rfl, rfl, .inl (sG _ _ hp8), ha, _, rfl, b, _, rfl, .inr (sG _ _ hb8), line, cs.length, by rw [ivs_len], c24, lbl, fun lr G1 xr t1 nr hr1 hrow => ?_⟩
      have t1l := t1 _ _ hsl
      have xrl : xr.length ≤ 1 := by
        cases e1 : okS cs.length (lineD line) with
        | true =>
          obtain ⟨v, e, _⟩ := (if_pos e1).mp hrow
          rw [e]
          exact Nat.le_refl _
        | false => rw [(if_neg (by rw [e1]; decide)).mp hrow]; exact Nat.zero_le _
      refine ⟨_, rfl, _, rfl, sl, lr, xs, xr, rfl, rfl, t1l, hr1, sz (by omega), fun o G2 n2 t2 h2o => ?_⟩
      have hr2 := t2 _ _ hr1
      have T2 := t1.trans t2
      refine ⟨_, rfl, szr, fun e0 G3 n3 t3 h3e => ?_⟩
      have T3 := T2.trans t3
      have S3 := S8.trans (sG.trans T3)
      cases e1 : okS cs.length (lineD line) with
      | false =>
        rw [e1] at inv hrow
        have ex : xr = [] := (if_neg Bool.false_ne_true).mp hrow
        subst ex
        refine ⟨.list [], .list [], .lst (SqL.of (t3 _ _ hr2)) .nil, .lst (SqL.of h3e) .nil, sh_steps [], sh_steps [], _, rfl, ?_⟩
        exact iteT' (eqv_nil []) ⟨_, rfl, kE inv G3 S3⟩
      | true =>
        rw [e1] at inv hrow
        obtain ⟨v, rfl, hv⟩ := (if_pos rfl).mp hrow
        have sk := okS_ok e1
        have pv1 : Paired (StepV G1) [v] [stOf (lineD line)] := .cons hv .nil
        refine ⟨.list (stepsD [stOf (lineD line)]), .list [], .lst (SqL.of (t3 _ _ hr2)) (dp_steps (steps_same (t2.trans t3) pv1)), .lst (SqL.of h3e) .nil, sh_steps _, sh_steps [], _, rfl, ?_⟩
        rw [show PyData.eqv (.list (stepsD [stOf (lineD line)])) (.list []) = false from rfl]
        have p3 : Paired (StepV G3) (xs ++ [v]) (sts ++ [stOf (lineD line)]) := paired_app (steps_same T3 hpS) (steps_same (t2.trans t3) pv1)
        have le : (xs ++ [v]).length = (sts ++ [stOf (lineD line)]).length := paired_len p3
        have ho3 := t3 _ _ h2o
        refine iteF ⟨_, rfl, o, _, rfl, .inl ho3, _, _, rfl, rfl, _, rfl, ?_⟩
        rw [le]
        by_cases g1 : (sts ++ [stOf (lineD line)]).length ≤ 40
        · rw [decide_eq_false (show ¬ (40 : Int) < ((sts ++ [stOf (lineD line)]).length : Nat) by omega)]
          rw [decide_eq_true g1] at inv
          have sok' : ∀ x ∈ sts ++ [stOf (lineD line)], OkS cs.length x := fun y hy => by
            rcases List.mem_append.mp hy with hy | hy
            · exact sok y hy
            · rw [List.mem_singleton.mp hy]; exact sk
          refine iteF ⟨_, rfl, _, rfl, _, rfl, szr, fun tp G4 n4 t4 h4t => ?_⟩
          refine ⟨tp, b, o, wd, xs ++ [v], sts ++ [stOf (lineD line)], rfl, h4t, t4 _ _ ho3, steps_same t4 p3, by omega, by rw [le]; omega, fun f ws hm => ?_, fun l6 G5 ys t5 n6 h6 hp6 => ⟨l6, ys, rfl, .inl h6, _, _, rfl, rfl, _, rfl, ?_⟩⟩
          · obtain ⟨o1, _, o3, _⟩ := sok' _ hm
            omega
          have T5 := T3.trans (t4.trans t5)
          have yl : ys.length = (allP wd 0 (sts ++ [stOf (lineD line)])).length := paired_len hp6
          rw [yl]
          by_cases g2 : (allP wd 0 (sts ++ [stOf (lineD line)])).length ≤ 40
          · rw [decide_eq_false (show ¬ (40 : Int) < ((allP wd 0 (sts ++ [stOf (lineD line)])).length : Nat) by omega)]
            rw [decide_eq_true g2] at inv
            exact iteF ⟨o, _, _, _, _, rfl, sG.trans T5, t5 _ _ (t4 _ _ ho3), steps_same (t4.trans t5) p3, g1, sok', g2, inv⟩
          · rw [decide_eq_true (show (40 : Int) < ((allP wd 0 (sts ++ [stOf (lineD line)])).length : Nat) by omega)]
            rw [decide_eq_false g2] at inv
            exact iteT ⟨_, rfl, kE inv G5 (S8.trans (sG.trans T5))⟩
        · rw [decide_eq_true (show (40 : Int) < ((sts ++ [stOf (lineD line)]).length : Nat) by omega)]
          rw [decide_eq_false g1] at inv
          exact iteT ⟨_, rfl, kE inv G3 S3⟩
    · rintro σ' G ⟨sl, xs, sts, v6, v7, rfl, sG, hsl, hpS, sl40, sok, sp40, inv⟩
      rw [ll, show List.drop (((rest.length + 2 : Nat) : Int) - 2).toNat rest = [] from List.drop_eq_nil_of_le (by omega)] at inv
      have inv : readS wd cs.length [] 2 rest = .inr sts := inv
      rw [inv] at k
      refine ⟨_, rfl, _, rfl, _, rfl, szr, fun a G1 n1 t1 h1a => ?_⟩
      exact k _ G1 ((S8.trans sG).trans t1) ⟨a, b, sl, xs, rfl, h1a, t1 _ _ (sG _ _ hb8), t1 _ _ hsl, steps_same t1 hpS⟩ ⟨c1, c24, cb, wd1, wd24, sok, sl40, sp40⟩
  · refine ⟨_, rfl, _, n, "str", rfl, ty, by decide, _, rfl, ?_⟩
    rw [ns]
    exact iteT (k H (Same.refl _))
end
end Af

set_option Elab.async false
set_option linter.all false
set_option maxRecDepth 100000
set_option maxHeartbeats 4000000
namespace Af
open PySem PySem.Spec PyProof.Rows PySem.Calls L2
/-! an error that is held and has fields: isinstance, e.f -/
theorem held_atD {X : Cx} {pins : List (Addr × Obj)} {σ : L2.St} {H : Hp} {s : Shared} {a D dd : Addr} {fs : List (Str × V)} (I : Inv X pins σ H s) (h : H a = some (HeldE (.ref D) (some dd) a)) (hd : H dd = some (.xd fs)) :
    ∃ (oe od : Obj) (mA : Str → Option Value), PySem.W.InstAt s.heap a oe D (some od) ∧ (∀ n, PySem.W.lookIn n od = some (mA n)) ∧ ∀ f, RelO (fs.lookup f) (mA f) := by
  obtain ⟨⟨oe, vs, e, ⟨c1, c2⟩, dv⟩, _⟩ := (show ObjOk X.prog X.w H s.heap a (HeldE (.ref D) (some dd) a) from I.hok a _ h)
  have hx : ObjOk X.prog X.w H s.heap dd (.xd fs) := I.hok dd _ hd
  obtain ⟨mA, hns, hr⟩ := hx
  obtain ⟨od, ho, hl⟩ := lookIn_ns hns
  refine ⟨oe, od, mA, ⟨e, c1, ?_, ?_⟩, ?_, hr⟩
  · unfold PySem.W.notCls
    rw [dv]
  · rw [c2]
    exact ho
  · exact hl
/-- isinstance(e, c) of an error that is held, with fields -/
def rIsHeldD (K : PySem.W.Frag) (D : Addr) : List V → Hp → VK → Prop := fun xs H Q => ∃ (a dd : Addr) (fs : List (Str × V)) (c : V) (cv : Value) (b : Bool), xs = [.ref a, c] ∧ H a = some (HeldE (.ref D) (some dd) a) ∧ H dd = some (.xd fs) ∧ ClsV c cv ∧ PySem.W.kitOne K (.ref D) cv = some b ∧ Q (.bl b) H
theorem call_isHeldD {X : Cx} {D : Addr} (C : L2.ExcC X.K D) : CallR X (.builtin "isinstance") (rIsHeldD X.K D) := by
  intro pins s σ H xs us Q I r h
  obtain ⟨a, dd, fs, c, cv, b, rfl, ha, hd, k, e, q⟩ := h
  obtain ⟨u1, u2, rfl, r1, r2⟩ := vals2 r
  cases (show u1 = Value.ref a from r1)
  have e2 := k.eq r2
  subst e2
  obtain ⟨oe, od, mA, J, _⟩ := held_atD I ha hd
  exact PySem.W.kia_one (PySem.W.kitx_exc (by obtain ⟨cd, hc, _⟩ := PySem.W.any_some C.hd; rw [hc]; rfl) C.hg C.hk C.hs C.ha C.hn C.ht C.hm) I.kIn J e (fun y => nomatch y) fun tk => ⟨.bl b, H, I.tok tk, rfl, q⟩
/-- e.f of an error that is held -/
def tHf (C : Addr) (f : Str) (te : TE) : TE := fun σ H Q => te σ H fun x H1 => ∃ (a dd : Addr) (fs : List (Str × V)) (v : V), x = .ref a ∧ H1 a = some (HeldE (.ref C) (some dd) a) ∧ H1 dd = some (.xd fs) ∧ fs.lookup f = some v ∧ Q v H1
theorem pe_hf {X : Cx} {C : Addr} {e : Expr} {te : TE} {pos : Pos} {n : Str} (T : XfC X.K C) (hno : PySem.W.findIn X.K (.ref C) n = some none) (he : PE X e te) (hb : attributeBase e n X.env (eval e X.env) = eval e X.env := by rfl) : PE X (.Attribute e n pos) (tHf C n te) := by
  refine ⟨fun pins s σ H Q I h => ?_⟩
  refine attr_of hb (thn (he.run pins s σ H _ I h) fun u s1 hh => ?_)
  obtain ⟨x, H1, I1, rx, a, dd, fs, v, rfl, ha, hd, l, q⟩ := hh
  obtain rfl : u = Value.ref a := rx
  obtain ⟨oe, od, mA, J, hl, hr⟩ := held_atD I1 ha hd
  obtain ⟨u, hu, ru⟩ := RelO.some_of (v := v) (o := mA n) (by rw [← l]; exact hr n)
  exact HandSPX.exc_get I1.kIn J T.ga T.gg T.exC (PySem.W.findObj_own T.hdC hno rfl (by rw [hl, hu])) (handed_of ru) ⟨v, H1, I1.tok _, ru, q⟩
end Af

set_option Elab.async false
set_option linter.all false
set_option maxRecDepth 100000
set_option maxHeartbeats 4000000
namespace Af
open PySem L2
abbrev s_l_parsed : Stmt := top 40
abbrev N_l_parsed : List Str := ["_law_thing", "_law_caught", "_law_found", "e"]
theorem sc_l_parsed : FnScope N_l_parsed ["_law_thing"] (defScope s_l_parsed) := ⟨rfl, rfl, rfl, by decide +kernel, rfl, by decide +kernel, by decide +kernel⟩

/-- what parse_plan gives, held: a plan, or the line -/
def sp_parsed (K : PySem.W.Frag) (C : Addr) : Sp := fun vs H Q _ => (∃ (t : Str), vs = [.str t] ∧ t.length ≤ 50000 ∧
  match readT t with
  | .inl k => ∀ H', Same H H' → Q (.int (k : Nat)) H'
  | .inr pl => ∀ y H', Same H H' → PlanN C H H' y pl → Q y H') ∨
  (∃ (x : V) (n : String), vs = [x] ∧ Ty K H x n ∧ isB n "str" = false ∧ ∀ H', Same H H' → Q (.int 0) H')
def sp_parse2 (K : PySem.W.Frag) (C CP : Addr) : Sp := fun vs H Q E => sp_parse C CP vs H Q E ∨ sp_parseX K CP vs H Q E
def tb_l_parsed (K : PySem.W.Frag) (C CP : Addr) (W : WX) : TS := tAsg (tCallS (sp_parse2 K C CP) (WE W) (tCons (tVar 0) tNil)) (gName 2)
def ts_l_parsed (_ : Addr) (_ : Value) (_ : Option Addr) : TS := tAsg (tVar 3) (gName 1)
/-- the classes FallError and ParseError -/
structure ErrP (K : PySem.W.Frag) (mg : Str → Option Value) (CF CP : Addr) : Prop where
  gF : mg "FallError" = some (.ref CF)
  gP : mg "ParseError" = some (.ref CP)
  c : L2.ExcC K CP
  x : XfC K CP
  no : PySem.W.findIn K (.ref CP) "line" = some none
  ex : PySem.W.exmOne K (.ref CP) (.ref CF) = some true
  own : PySem.W.kitOne K (.ref CP) (.ref CP) = some true
  val : PySem.W.kitOne K (.ref CP) (.type "ValueError") = some true
section
variable {P : Program} {w : World} {K : PySem.W.Frag} {mg : Str → Option Value} {base : Heap}
theorem ok_parsed {f C CF CP : Addr} {fd : FuncData} (F : Fun K "_law_parsed" "_law_parsed" s_l_parsed f fd) (T : Txt mg) (t_ValueError : mg "ValueError" = none) (X : ErrP K mg CF CP)
    (c_parse_plan : CalX P w K mg base 8 "parse_plan" ["text"] (sp_parse2 K C CP)) : FnOk P w K mg base CX0 9 f fd ["_law_thing"] (sp_parsed K C) := by
  have g_FallError := X.gF
  refine F.ok sc_l_parsed (fun vs H Q E h => ?_) (fun cdv A outer s H vs Q E hr h => ?_)
  · rcases h with ⟨_, rfl, _⟩ | ⟨_, _, rfl, _⟩ <;> rfl
  refine ⟨_, (pss_cons (ps_set (i := 1) sc_l_parsed.nd rfl (Or.inl rfl) pe_non)
    (pss_cons (ps_set (i := 2) sc_l_parsed.nd rfl (Or.inl rfl) pe_non)
    (pss_cons (ps_try_hold (i := 3) (tb := tb_l_parsed K C CP) (ts := ts_l_parsed) (Wout := fun _ _ _ _ => False) rfl rfl sc_l_parsed.nd rfl rfl rfl ⟨rfl, by decide, .inl g_FallError⟩ takes0
      (fun W pn xe tk _ => (pss_one (ps_set (i := 2) sc_l_parsed.nd rfl (Or.inl rfl) (pe_calX c_parse_plan hr (fun σ => passAt tk σ) (pa_cons (pv 0) pa_nil)))))
      (fun a oe cls d pn hz hf => (pss_one (ps_set (i := 1) sc_l_parsed.nd rfl (Or.inl rfl) (pv 3)))))
    (pss_cons (ps_if (pt_cmpR op_isN (pv 1) pe_non (nomark _))
      (pss_one (ps_ret (pv 2)))
      pss_nil)
    (pss_one (ps_ret (pe_ifExp (PW.pt (pw_and (pt_val (pe_callB (call_isHeldD X.c) (by rfl) T.isinstance (by decide +kernel) (pa_cons (pv 1) (pa_cons (pe_glob (v := .ref CP) rfl X.gP rfl) pa_nil)))) (pw_and1 (pt_val (pe_callB (call_isHeldD X.c) (by rfl) T.isinstance (by decide +kernel) (pa_cons (pv 1) (pa_cons (pe_bltn (v := .ty "ValueError") (by rfl) t_ValueError (by decide +kernel) rfl) pa_nil))))))) (pe_hf X.x X.no (pv 1)) (pe_un un_neg pe_int)))))))), ?_⟩
  rcases h with ⟨t, rfl, lt, k⟩ | ⟨x, n, rfl, ty, ns, k⟩
  · refine ⟨_, rfl, .inl ⟨t, rfl, lt, ?_⟩⟩
    cases er : readT t with
    | inl n =>
      rw [er] at k
      refine fun d H' s' nd hd => ?_
      refine ⟨true, X.ex, fun _ b na => ⟨_, rfl, ?_⟩, fun y => by cases y⟩
      have sb : Same H' (upd H' b (HeldE (.ref CP) (some d) b)) := same_new na
      have hb : (upd H' b (HeldE (.ref CP) (some d) b)) b = some (HeldE (.ref CP) (some d) b) := upd_same
      have hd' := sb _ _ hd
      exact ⟨_, rfl, rfl, _, rfl, iteF ⟨_, rfl, b, d, _, _, _, true, rfl, hb, hd', .own CP, X.own, _, rfl, iteT ⟨_, rfl, b, d, _, _, _, true, rfl, hb, hd', .ty "ValueError", X.val, _, rfl, iteT ⟨_, rfl, b, d, _, _, rfl, hb, hd', rfl, k _ (s'.trans sb)⟩⟩⟩⟩
    | inr pl =>
      rw [er] at k
      exact fun y H' s' hn => ⟨_, rfl, rfl, _, rfl, iteT ⟨_, rfl, k y H' s' hn⟩⟩
  · refine ⟨_, rfl, .inr ⟨x, n, rfl, ty, ns, fun d H' s' nd hd => ?_⟩⟩
    refine ⟨true, X.ex, fun _ b na => ⟨_, rfl, ?_⟩, fun y => by cases y⟩
    have sb : Same H' (upd H' b (HeldE (.ref CP) (some d) b)) := same_new na
    have hb : (upd H' b (HeldE (.ref CP) (some d) b)) b = some (HeldE (.ref CP) (some d) b) := upd_same
    have hd' := sb _ _ hd
    exact ⟨_, rfl, rfl, _, rfl, iteF ⟨_, rfl, b, d, _, _, _, true, rfl, hb, hd', .own CP, X.own, _, rfl, iteT ⟨_, rfl, b, d, _, _, _, true, rfl, hb, hd', .ty "ValueError", X.val, _, rfl, iteT ⟨_, rfl, b, d, _, _, rfl, hb, hd', rfl, k _ (s'.trans sb)⟩⟩⟩⟩
end
end Af

set_option Elab.async false
set_option linter.all false
set_option maxRecDepth 100000
namespace L2
open PySem PySem.Spec PyProof.Rows
/-! list(range(8, 0, -1)) -/
section
variable {X : Cx}
def tLst3 (ta : TA) : TE := fun σ H Q => ta σ H fun vs H1 => vs = [.int 8, .int 0, .int (-1)] ∧ ∀ q, H1 q = none → Q (.ref q) (upd H1 q (.lst ([8, 7, 6, 5, 4, 3, 2, 1].map V.int)))
theorem pe_listRg3 {a b c : Expr} {ta : TA} {p p2 pos pos2 : Pos} (hg : Gl X "list") (hm : X.mg "list" = none) (hg2 : Gl X "range") (hm2 : X.mg "range" = none) (ha : PA X [a, b, c] ta) (hc : X.calm = true := by rfl)
    (hs : starEach [a, b, c] X.env = (false, eval a X.env) :: starEach [b, c] X.env := by rfl) (hpl : (backTo pos2 (starEach [b, c] X.env)).any (·.1) = false := by rfl)
    (na : starEach [.Call (.Name "range" p2) [a, b, c] [] pos2] X.env = (false, eval (.Call (.Name "range" p2) [a, b, c] [] pos2) X.env) :: starEach [] X.env := by rfl) :
    PE X (.Call (.Name "list" p) [.Call (.Name "range" p2) [a, b, c] [] pos2] [] pos) (tLst3 ta) := by
  refine ⟨fun pins s σ H Q I h => ?_⟩
  have inner : wpAny (model X.prog X.w) X.A (eval (.Call (.Name "range" p2) [a, b, c] [] pos2) X.env) (fun x s' => ∃ r t u v H', x = .ref r ∧ IsRange s'.heap r 8 0 (-1) t u v ∧ Inv X pins σ H' s' ∧ ∀ q, H' q = none → Q (.ref q) (upd H' q (.lst ([8, 7, 6, 5, 4, 3, 2, 1].map V.int)))) X.xe s := by
    refine Call_ (ld_blt I hg2 hm2 boot_range (PyProof.Rows.callWith_type1 (thn (ha.run pos2 pins s σ H _ I h) fun us s1 ⟨vs, H1, I1, r1, q1⟩ => ?_) hs hpl))
    obtain ⟨e, q⟩ := q1
    subst e
    cases r1 with
    | cons r rr =>
      cases rr with
      | cons r' rr =>
        cases rr with
        | cons r'' rr =>
          cases rr
          obtain ⟨t, rfl⟩ := r
          obtain ⟨t', rfl⟩ := r'
          obtain ⟨t'', rfl⟩ := r''
          refine call_range_3 (by decide) ?_ (.inl (PyProof.noPylong_small (by decide +kernel)))
          exact ⟨_, _, _, _, H1, rfl, IsRange.new _ _ _ _ _ _ _, I1.kept (t' := s1.toks) fun b u e => Heap.get?_push_of_some _ e, q⟩
  refine Call_ (ld_blt I hg hm boot_list (PyProof.Rows.callWith_type1 (args_cons (thn inner fun x s1 ⟨r, t, u, v, H1, ex, hr, I1, q⟩ => args_nil ?_) na) na))
  subst ex
  refine call_list_range (n := 8) (I1.ok.hd hc) hr (by decide +kernel) (by decide +kernel) (by decide) fun h' tk acc c' hk e' hi => ?_
  refine ⟨.ref s1.heap.objs.size, upd H1 s1.heap.objs.size (.lst ([8, 7, 6, 5, 4, 3, 2, 1].map V.int)), I1.laid hk (Nat.le_refl _) (show ObjOk X.prog X.w _ _ _ (.lst _) from ⟨?_, acc.toList, c', ?_, ?_⟩), rfl, q _ (I1.hok.fresh (Nat.le_refl _))⟩
  · show 8 ≤ sizeLine
    decide
  · have e : acc.toList.length = 8 := by rw [Array.length_toList]; exact hi.1
    have z := vals_of_get acc.toList (fun m => V.int (8 + (m : Int) * (-1))) fun j u hj => hi.2 j u (by rw [← hj, Array.getElem?_toList])
    rw [e] at z
    exact z
  · rw [Array.toArray_toList]
    exact e'
end
end L2

set_option Elab.async false
set_option linter.all false
set_option maxRecDepth 100000
set_option maxHeartbeats 4000000
namespace Af
open PySem L2
abbrev s_l_read_right : Stmt := top 41
abbrev N_l_read_right : List Str := ["_law_thing", "_law_due", "_law_found", "_law_seen"]
theorem sc_l_read_right : FnScope N_l_read_right ["_law_thing"] (defScope s_l_read_right) := ⟨rfl, rfl, rfl, by decide +kernel, rfl, by decide +kernel, by decide +kernel⟩

theorem PlanF.x {C sl ql el : Addr} {H : Hp} {x : V} {pl : Pl} (f : PlanF C H x pl sl ql el) : ∃ a ca dx fs xs ys, x = .ref a ∧ PlanX C a ca sl ql el H pl xs ys ∧ H ca = some (.tup (ivs pl.cs)) ∧ Paired (StepV H) xs pl.sts ∧ Paired (PieceA H) ys (allP pl.w 0 pl.sts) ∧ H a = some (.ins C dx fs) := by
  obtain ⟨a, ca, xs, ys, rfl, pX, h6, h7, h8⟩ := f.ex
  obtain ⟨⟨dx, fs, h1, _⟩, _⟩ := id pX
  exact ⟨a, ca, dx, fs, xs, ys, rfl, pX, h6, h7, h8, h1⟩
theorem first_own {K : PySem.W.Frag} {C : Addr} : PySem.W.notFirst K C (.ref C) = true := by
  unfold PySem.W.notFirst
  simp
section
variable {K : PySem.W.Frag} {mg : Str → Option Value} {C p : Addr} {H : Hp} {x y : V} {pl pl' : Pl} {n : String} {Q : VK}
theorem eq_ins (T : PlanC K mg C) (hx : PlanI p C H x pl) (hy : PlanI p C H y pl') (q : Q (.bl (samePl pl pl')) H) : rOwnEq K C (sp_eq K C) x y H Q := by
  obtain ⟨a, dx, _, _, fs, _, rfl, h1, _⟩ := hx.ex
  obtain ⟨b, dy, _, _, gs, _, rfl, g1, _⟩ := hy.ex
  exact ⟨a, dx, fs, _, rfl, h1, T.ty g1, first_own, p, _, _, pl, rfl, hx, .inl ⟨pl', hy, _, rfl, q⟩⟩
theorem ne_ins (T : PlanC K mg C) (hx : PlanI p C H x pl) (hy : PlanI p C H y pl') (q : Q (.bl (!samePl pl pl')) H) : rOwnNe K C (sp_eq K C) x y H Q := by
  obtain ⟨a, dx, _, _, fs, _, rfl, h1, _⟩ := hx.ex
  obtain ⟨b, dy, _, _, gs, _, rfl, g1, _⟩ := hy.ex
  exact ⟨a, dx, fs, _, rfl, h1, T.ty g1, first_own, p, _, _, pl, rfl, hx, .inl ⟨pl', hy, _, rfl, q⟩⟩
end
def threeD (pl : Pl) : List PyData := [.tuple (dvs pl.cs), .int pl.w, .list (stepsD pl.sts)]
theorem bd_three {pl : Pl} (o : OkP pl) : PyData.showableAll (threeD pl) = true ∧ PyData.depthAll (threeD pl) ≤ 60 ∧ (PyData.list (threeD pl)).shown.length ≤ sizeLine := by
  have b := Bd.lst (b := 160083) (n := 7) (k := 3) (ds := threeD pl) (fun d hd => by
    have sl := o.sl
    simp only [threeD, List.mem_cons, List.not_mem_nil, or_false] at hd
    rcases hd with rfl | rfl | rfl
    · exact (bd_cells (by have := o.c24; omega) o.cb).mono (by decide) (by decide)
    · exact (Bd.flat (flat_place ⟨by have := o.w1; omega, by have := o.w24; omega⟩)).mono (by decide) (by decide)
    · exact Bd.lst (b := 4000) (n := 6) (k := 40) (bd_steps o.st o.c24) (by rw [len_stepsD]; exact o.sl)) (Nat.le_refl 3)
  refine ⟨by simpa only [PyData.showable] using b.sh, ?_, Nat.le_trans b.tx (by decide)⟩
  have := b.dp
  simp only [PyData.depth] at this
  omega

def sp_rr (K : PySem.W.Frag) : Sp := fun vs H Q _ => (∃ (t : Str), vs = [.str t] ∧ t.length ≤ 50000 ∧ (∀ c ∈ TL.tl t, c < 16 ^ 8) ∧ ∀ H', Same H H' → Q (.bl true) H') ∨
  (∃ (x : V) (n : String) (d : PyData), vs = [x] ∧ Ty K H x n ∧ isB n "str" = false ∧ Dx K H x d ∧ d.showable = true ∧ d.depth ≤ 60 ∧ d.shown.length ≤ sizeLine ∧ ∀ H', Same H H' → Q (.bl true) H')
theorem shown_t {t : Str} (l : t.length ≤ 50000) (h : ∀ c ∈ TL.tl t, c < 16 ^ 8) : (PyData.str t).shown.length ≤ sizeLine := by
  rw [PyData.shown_str]
  exact Nat.le_trans (PySem.StrLaws.reprText_len t h) (by rw [sizeLine_eq]; omega)
theorem readS_lt {w : Int} {n : Nat} : ∀ (ls : List Str) (acc : List Stp) (k m : Nat), readS w n acc k ls = .inl m → m < k + ls.length
  | [], _, _, _, h => by cases h
  | l :: r, acc, k, m, h => by
    unfold readS at h
    rw [List.length_cons]
    split at h
    · have := readS_lt r _ _ _ h
      omega
    · cases h
      omega
theorem readT_lt {t : Str} {n : Nat} (l : t.length ≤ 50000) (h : readT t = .inl n) : n < 100000 := by
  have ls := PyProof.Rows.split_le t "\n"
  unfold readT at h
  generalize Txt.split t "\n" = xs at ls h
  simp only at h
  split at h
  · cases h; omega
  · split at h
    · cases h; omega
    · split at h
      · cases h; omega
      · split at h
        · rename_i k e
          have := readS_lt _ _ _ _ e
          rw [List.length_drop] at this
          cases h
          omega
        · cases h
theorem int_sh {n : Nat} (h : n < 100000) : (PyData.int (n : Nat)).showable = true ∧ (PyData.int (n : Nat)).depth ≤ 60 ∧ (PyData.int (n : Nat)).shown.length ≤ sizeLine := by
  refine ⟨?_, Nat.zero_le 60, ?_⟩
  · show decide (((n : Nat) : Int).natAbs.log2 < 1920) = true
    refine decide_eq_true ?_
    by_cases z : ((n : Nat) : Int).natAbs = 0
    · rw [z]; decide
    · exact (Nat.log2_lt z).mpr (Nat.lt_trans (show ((n : Nat) : Int).natAbs < 2 ^ 20 by omega) (Nat.pow_lt_pow_right (by decide) (by decide)))
  · exact sz (Nat.le_trans (show (numS (n : Nat)).length ≤ 5 from num_len5 (by omega) (by omega)) (by decide))
section
variable {P : Program} {w : World} {K : PySem.W.Frag} {mg : Str → Option Value} {base : Heap}
theorem ok_read_right {f C fE : Addr} {fd fdE : FuncData} (F : Fun K "_law_read_right" "_law_read_right" s_l_read_right f fd) (T : Txt mg) (t_repr : mg "repr" = none) (TC : PlanC K mg C) (O : OwnEqC K C fE)
    (G_eq : FnOk P w K mg base CX0 1 fE fdE ["self", "other"] (sp_eq K C)) (b_eq : Binds K fdE ["self", "other"] [])
    (P_base : PropC P w K mg base C "base" (sp_p_base C)) (P_width : PropC P w K mg base C "width" (sp_p_width C)) (P_steps : PropC P w K mg base C "steps" (sp_p_steps C))
    (c_l_read : Cal P w K mg base 3 "_law_read" ["_law_thing"] (sp_read K)) (c_l_parsed : Cal P w K mg base 9 "_law_parsed" ["_law_thing"] (sp_parsed K C)) (c_l_plan_of : Cal P w K mg base 8 "_law_plan_of" ["_law_plan_here"] (sp_plan_of C)) :
    FnG P w K mg base 10 f fd ["_law_thing"] (sp_rr K) := by
  have c_Plan := TC.mgC
  refine okG F sc_l_read_right (fun vs H Q E h => ?_) (fun cdv A outer s H vs Q E hr hg h => ?_)
  · rcases h with ⟨_, rfl, _⟩ | ⟨_, _, _, rfl, _⟩ <;> rfl
  refine ⟨_, (pss_cons (ps_par3 (i := 1) (j := 2) (l := 3) rfl sc_l_read_right.nd rfl rfl rfl (by decide) (by decide) (by decide) rfl rfl rfl (pa_cons (pe_cal c_l_read hr (pa_cons (pv 0) pa_nil)) (pa_cons (pe_cal c_l_parsed hr (pa_cons (pv 0) pa_nil)) (pa_cons (pe_callB (call_reprX hg hr.units) (by rfl) t_repr (by decide +kernel) (pa_cons (pv 0) pa_nil)) pa_nil))) (by rfl))
    (pss_cons (ps_if (pt_val (pe_callB call_isi' (by rfl) T.isinstance (by decide +kernel) (pa_cons (pv 1) (pa_cons (pe_bltn (v := .ty "int") (by rfl) T.int (by decide +kernel) rfl) pa_nil))))
      (pss_one (ps_ret (pe_and (pe_cmpR op_eq (pe_callB (call_reprX hg hr.units) (by rfl) t_repr (by decide +kernel) (pa_cons (pv 2) pa_nil)) (pe_callB (call_reprX hg hr.units) (by rfl) t_repr (by decide +kernel) (pa_cons (pv 1) pa_nil)) (nomark _)) (pe_one (pe_cmpR op_eq (pe_callB (call_reprX hg hr.units) (by rfl) t_repr (by decide +kernel) (pa_cons (pv 0) pa_nil)) (pv 3) (nomark _))))))
      pss_nil)
    (pss_cons (ps_cut (ps_if (PW.pt (pw_or (pt_not (pt_val (pe_callB call_isi (by rfl) T.isinstance (by decide +kernel) (pa_cons (pv 2) (pa_cons (pe_glob (v := .ref C) rfl c_Plan rfl) pa_nil))))) (pw_or1 (pt_cmpR (op_ownNe O G_eq b_eq hr) (pv 2) (pe_cal c_l_plan_of hr (pa_cons (pv 1) pa_nil)) (nomark _)))))
      (pss_one (ps_ret pe_bl))
      pss_nil))
    (pss_one (ps_ret (pe_cmpR op_eq (pe_callB (call_reprL hg hr.units) (by rfl) t_repr (by decide +kernel) (pa_cons (pe_lst' (pa_cons (pe_propC TC.cl P_base hr (pv 2)) (pa_cons (pe_propC TC.cl P_width hr (pv 2)) (pa_cons (pe_propC TC.cl P_steps hr (pv 2)) pa_nil)))) pa_nil)) (pe_callB (call_reprL hg hr.units) (by rfl) t_repr (by decide +kernel) (pa_cons (pe_lst' (pa_cons (pe_ix ix_seq' (pv 1) pe_int (fun _ _ => rfl)) (pa_cons (pe_ix ix_seq' (pv 1) pe_int (fun _ _ => rfl)) (pa_cons (pe_ix ix_seq' (pv 1) pe_int (fun _ _ => rfl)) pa_nil)))) pa_nil)) (nomark _))))))), ?_⟩
  have end1 : ∀ (x : V) (d : PyData) (n : Nat) (G : Hp), n < 100000 → Dx K G x d → d.showable = true → d.depth ≤ 60 → d.shown.length ≤ sizeLine → Q (.bl true) G →
      tRet (tAndV (tOp rEq (tCB (rReprX K) (tCons (tVar 2) tNil)) (tCB (rReprX K) (tCons (tVar 1) tNil))) (tOp rEq (tCB (rReprX K) (tCons (tVar 0) tNil)) (tVar 3))) { nx := fun _ _ => False, rt := Q } [some x, some (.int (n : Nat)), some (.int (n : Nat)), some (.str d.shown)] G := fun x d n G n5 dx sh dp sl q => by
    obtain ⟨i1, i2, i3⟩ := int_sh n5
    refine ⟨_, rfl, _, _, rfl, .int _, i1, i2, i3, _, rfl, _, _, rfl, .int _, i1, i2, i3, rfl, ?_⟩
    rw [show decide (V.str (PyData.int (n : Nat)).shown = V.str (PyData.int (n : Nat)).shown) = true from decide_eq_true rfl]
    refine ⟨_, rfl, iteT ⟨_, rfl, x, d, rfl, dx, sh, dp, sl, _, rfl, rfl, ?_⟩⟩
    rw [show decide (V.str d.shown = V.str d.shown) = true from decide_eq_true rfl]
    exact q
  have ti : ∀ (n : Nat) (G : Hp), Ty K G (.int (n : Nat)) "int" := fun n G => ⟨.int _, by decide, fun _ _ _ e => by cases e⟩
  rcases h with ⟨t, rfl, lt, ch, k⟩ | ⟨x, n, d, rfl, ty, ns, dx, sh, dp, sl, k⟩
  · have sl := shown_t lt ch
    refine ⟨_, rfl, .inl ⟨t, rfl, lt, ?_⟩⟩
    cases er : readT t with
    | inl n =>
      have n5 := readT_lt lt er
      refine fun H1 s1 => ⟨_, rfl, .inl ⟨t, rfl, lt, ?_⟩⟩
      rw [er]
      refine fun H2 s2 => ⟨_, rfl, .str t, .str t, rfl, .str t, rfl, Nat.zero_le 60, sl, _, _, _, rfl, ?_⟩
      refine ⟨_, rfl, _, "int", "int", rfl, ti n H2, by decide, _, rfl, ?_⟩
      rw [show isB "int" "int" = true by decide]
      exact iteT (end1 (.str t) (.str t) n H2 n5 (.str t) rfl (Nat.zero_le 60) sl (k H2 (s1.trans s2)))
    | inr pl =>
      refine fun v H1 s1 pt ok => ⟨_, rfl, .inl ⟨t, rfl, lt, ?_⟩⟩
      rw [er]
      refine fun y H2 s2 hn => ⟨_, rfl, .str t, .str t, rfl, .str t, rfl, Nat.zero_le 60, sl, _, _, _, rfl, ?_⟩
      obtain ⟨a, ca, sa, xs, rfl, p1, p2, p4, p5⟩ := pt.ex
      have f1 := s2 _ _ p1
      have f2 := s2 _ _ p2
      have f4 := s2 _ _ p4
      have f5 := steps_same s2 p5
      have hy := hn.w (p := ca) p2
      have tt : Ty K H2 (.ref a) "tuple" := ⟨.tup f1, by decide, fun b o u z q => by cases z; rw [f1] at q; cases q⟩
      refine ⟨_, rfl, .ref a, "tuple", "int", rfl, tt, by decide, _, rfl, ?_⟩
      rw [show isB "tuple" "int" = false by decide]
      refine iteF ?_
      obtain ⟨sl0, ql0, el0, xF, _, _, _⟩ := hy.ex
      obtain ⟨a0, ca0, dx0, fs0, xs0, ys0, ey0, pX0, hca0, hst0, _, hx0⟩ := xF.x
      refine ⟨fun σ' H' => σ' = [some (.str t), some (.ref a), some y, some (.str (PyData.str t).shown)] ∧ Same H2 H', ?_, ?_⟩
      · subst ey0
        refine ⟨_, rfl, .ref a0, .ref C, _, _, true, rfl, .own C, TC.ty hx0, TC.is1, ?_⟩
        refine ⟨_, rfl, iteF ?_⟩
        refine ⟨_, rfl, _, rfl, ca, .ref a, pl, rfl, ⟨a, ca, sa, xs, rfl, f1, f2, (fun z => by rw [z, f2] at f4; cases f4), f4, f5⟩, ok, fun y2 H5 s5 n5 => ?_⟩
        refine ne_ins TC (hy.same s5).i (n5.w (p := ca) f2).i ?_
        rw [same_refl]
        exact ⟨_, rfl, iteF ⟨rfl, s5⟩⟩
      rintro _ H6 ⟨rfl, s6⟩
      obtain ⟨sl, ql, el, xF, _, _, _⟩ := (hy.same s6).ex
      obtain ⟨a2, ca2, dx2, fs2, xs2, ys2, ey, pX2, hca2, hst2, hps2, hx2⟩ := xF.x
      obtain ⟨b1, b2, b3⟩ := bd_three ok
      refine ⟨_, rfl, a2, dx2, fs2, ey, hx2, a2, ca2, sl, ql, el, pl, xs2, ys2, rfl, pX2, ?_⟩
      refine ⟨_, rfl, a2, dx2, fs2, ey, hx2, a2, ca2, sl, ql, el, pl, xs2, ys2, rfl, pX2, ?_⟩
      refine ⟨_, rfl, a2, dx2, fs2, ey, hx2, a2, ca2, sl, ql, el, pl, xs2, ys2, rfl, pX2, fun l1 H7 s7 n7 h7 => ⟨szr, fun l2 H8 n8 s8 h8 => ?_⟩⟩
      have S8 := s7.trans s8
      refine ⟨l2, _, threeD pl, rfl, h8, .cons (.tup (S8 _ _ hca2) (dq_ints _)) (.cons (.int _) (.cons (.lst (s8 _ _ h7) (dq_stepsV (steps_same S8 hst2))) .nil)), b1, b2, b3, ?_⟩
      have T8 := s6.trans S8
      have g1 := T8 _ _ f1
      refine ⟨_, rfl, a, _, _, _, rfl, rfl, .inr g1, atI_nat (j := 0) rfl, _, rfl, a, _, _, _, rfl, rfl, .inr g1, atI_nat (j := 1) rfl, _, rfl, a, _, _, _, rfl, rfl, .inr g1, atI_nat (j := 2) rfl, szr, fun l3 H9 n9 s9 h9 => ?_⟩
      have T9 := T8.trans s9
      refine ⟨l3, _, threeD pl, rfl, h9, .cons (.tup (T9 _ _ f2) (dq_ints _)) (.cons (.int _) (.cons (.lst (T9 _ _ f4) (dq_stepsV (steps_same T9 f5))) .nil)), b1, b2, b3, rfl, ?_⟩
      rw [show decide (V.str (PyData.list (threeD pl)).shown = V.str (PyData.list (threeD pl)).shown) = true from decide_eq_true rfl]
      exact k H9 (s1.trans (s2.trans T9))
  · refine ⟨_, rfl, .inr ⟨x, n, rfl, ty, ns, fun H1 s1 => ⟨_, rfl, .inr ⟨x, n, rfl, ty.same s1, ns, fun H2 s2 => ?_⟩⟩⟩⟩
    have dx2 := Dx.same (s1.trans s2) dx
    refine ⟨_, rfl, x, d, rfl, dx2, sh, dp, sl, _, _, _, rfl, ?_⟩
    refine ⟨_, rfl, _, "int", "int", rfl, ti 0 H2, by decide, _, rfl, ?_⟩
    rw [show isB "int" "int" = true by decide]
    exact iteT (end1 x d 0 H2 (by decide) dx2 sh dp sl (k H2 (s1.trans s2)))
end
end Af

set_option Elab.async false
set_option linter.all false
set_option maxRecDepth 100000
namespace Af
open PySem PySem.Spec PyProof.Rows L2
/-! text * number; texts of no more than n signs -/
def rMulS : R2 := fun x y H Q => ∃ (z : Str) (n : Int), x = .str z ∧ y = .int n ∧ z.length ≤ 1600 ∧ 0 ≤ n ∧ n ≤ 10000 ∧ Q (.str (Txt.mul z n)) H
theorem op_mulS {X : Cx} : OpR X (binaryOp .Mult) rMulS := by
  intro pins s σ H x y v u Q I rx ry h
  obtain ⟨z, n, rfl, rfl, hz, h0, h1, q⟩ := h
  obtain ⟨t, rfl⟩ := rx
  obtain ⟨t', rfl⟩ := ry
  exact PySem.SB.mul (mulOk_of 1600 10000 hz (by omega) (by omega) (by decide) (by decide)) fun t' k => ⟨.str (Txt.mul z n), H, I.tok _, ⟨_, rfl⟩, q⟩
structure TxL (n : Nat) (t : Str) : Prop where
  len : t.length ≤ n
  chr : ∀ c ∈ TL.tl t, c < 16 ^ 8
theorem TxL.app {n m : Nat} {a b : Str} (h : TxL n a) (g : TxL m b) : TxL (n + m) (a ++ b) := by
  refine ⟨PySem.W.KT.len_app h.len g.len, fun c hc => ?_⟩
  have e : TL.tl (a ++ b) = TL.tl a ++ TL.tl b := by
    show (a.cps ++ b.cps).toList = a.cps.toList ++ b.cps.toList
    simp
  rw [e] at hc
  exact (List.mem_append.mp hc).elim (h.chr c) (g.chr c)
theorem reps_mem (x : Array Nat) : ∀ (k : Nat) (acc : Array Nat) (c : Nat), c ∈ ((List.replicate k x).foldl (· ++ ·) acc).toList → c ∈ acc.toList ∨ c ∈ x.toList
  | 0, acc, c, h => .inl h
  | k + 1, acc, c, h => by
    rw [List.replicate_succ, List.foldl_cons] at h
    rcases reps_mem x k _ c h with h | h
    · rw [Array.toList_append] at h
      exact List.mem_append.mp h
    · exact .inr h
theorem TxL.mul {n : Nat} {a : Str} (h : TxL n a) {k : Int} (k0 : 0 ≤ k) : TxL (n * k.toNat) (Txt.mul a k) := by
  refine ⟨?_, fun c hc => ?_⟩
  · have e := len_mul a k
    rw [if_neg (by simpa using k0)] at e
    have e2 : (Txt.mul a k).length = a.length * k.toNat := by
      have : ((a.length * k.toNat : Nat) : Int) = (a.length : Int) * k := by rw [Int.natCast_mul, Int.toNat_of_nonneg k0]
      omega
    rw [e2]
    exact Nat.mul_le_mul_right _ h.len
  · unfold Txt.mul at hc
    split at hc
    · cases hc
    · split at hc
      · exact h.chr c hc
      · rcases reps_mem _ _ _ c hc with z | z
        · cases z
        · exact h.chr c z
theorem TxL.mono {n m : Nat} {a : Str} (h : TxL n a) (l : n ≤ m) : TxL m a := ⟨Nat.le_trans h.len l, h.chr⟩
def txB (n : Nat) (t : Str) : Bool := decide (t.length ≤ n) && (TL.tl t).all fun c => decide (c < 16 ^ 8)
theorem TxL.by {n : Nat} {t : Str} (h : txB n t = true) : TxL n t := by
  unfold txB at h
  rw [Bool.and_eq_true] at h
  exact ⟨of_decide_eq_true h.1, fun c hc => of_decide_eq_true (List.all_eq_true.mp h.2 c hc)⟩
end Af

set_option Elab.async false
set_option linter.all false
set_option maxRecDepth 100000
set_option maxHeartbeats 8000000
namespace Af
open PySem L2
abbrev s_l_heads : Stmt := top 42
abbrev N_l_heads : List Str := ["_law_widths", "_law_found", "_law_bases", "_law_word"]
theorem sc_l_heads : FnScope N_l_heads [] (defScope s_l_heads) := ⟨rfl, rfl, rfl, by decide +kernel, rfl, by decide +kernel, by decide +kernel⟩

abbrev s_l_tails : Stmt := top 43
abbrev N_l_tails : List Str := ["_law_rows", "_law_sign", "_law_found", "_law_row"]
theorem sc_l_tails : FnScope N_l_tails [] (defScope s_l_tails) := ⟨rfl, rfl, rfl, by decide +kernel, rfl, by decide +kernel, by decide +kernel⟩

def AllV (n : Nat) (xs : List V) : Prop := ∀ x ∈ xs, ∃ t, x = .str t ∧ TxL n t
theorem AllV.nil {n : Nat} : AllV n [] := fun _ h => by cases h
theorem AllV.cons {n : Nat} {t : Str} {xs : List V} (h : TxL n t) (a : AllV n xs) : AllV n (.str t :: xs) := fun x hx => by
  rcases List.mem_cons.mp hx with rfl | hx
  · exact ⟨t, rfl, h⟩
  · exact a x hx
theorem AllV.app {n : Nat} {xs ys : List V} (a : AllV n xs) (b : AllV n ys) : AllV n (xs ++ ys) := fun x hx => (List.mem_append.mp hx).elim (a x) (b x)
theorem AllV.mono {n m : Nat} {xs : List V} (a : AllV n xs) (l : n ≤ m) : AllV m xs := fun x hx => by
  obtain ⟨t, e, h⟩ := a x hx
  exact ⟨t, e, h.mono l⟩
theorem AllV.by {n : Nat} : ∀ {ts : List Str}, ts.all (txB n) = true → AllV n (ts.map V.str)
  | [], _ => .nil
  | t :: ts, h => by
    rw [List.all_cons, Bool.and_eq_true] at h
    exact .cons (TxL.by h.1) (AllV.by h.2)
def sp_txts (m : Nat) : Sp := fun vs H Q _ => vs = [] ∧ ∀ l H' xs, Same H H' → H' l = some (.lst xs) → xs.length ≤ m → AllV 12000 xs → Q (.ref l) H'
section
variable {P : Program} {w : World} {K : PySem.W.Frag} {mg : Str → Option Value} {base : Heap}
theorem ok_heads {f : Addr} {fd : FuncData} (F : Fun K "_law_heads" "_law_heads" s_l_heads f fd) (T : Txt mg) : FnOk P w K mg base CX0 1 f fd [] (sp_txts 100) := by
  refine F.ok sc_l_heads (fun vs H Q E h => ?_) (fun cdv A outer s H vs Q E hr h => ?_)
  · obtain ⟨rfl, _⟩ := h
    rfl
  obtain ⟨rfl, k⟩ := h
  refine ⟨_, (pss_cons (ps_set (i := 0) sc_l_heads.nd rfl (Or.inl rfl) (pe_lst' (pa_cons pe_str (pa_cons pe_str (pa_cons pe_str (pa_cons pe_str (pa_cons pe_str (pa_cons pe_str (pa_cons pe_str (pa_cons pe_str (pa_cons pe_str (pa_cons pe_str (pa_cons (pe_op op_mulS pe_str pe_int) (pa_cons pe_str (pa_cons pe_str (pa_cons pe_str (pa_cons pe_str (pa_cons pe_str pa_nil))))))))))))))))))
    (pss_cons (ps_setLc (i := 1) (own := [("_law_word", 3)]) (g := (gName 3)) (tt := tYes) rfl sc_l_heads.nd rfl rfl (sw_true rfl rfl rfl (by decide +kernel)) (pi_list (pv 0)) (blkOk_by (own := [("_law_word", 3)]) (N := N_l_heads) (sc := defScope s_l_heads) (by decide +kernel)) (fun _ _ _ _ _ => pg_name (i := 3) sc_l_heads.nd rfl (Or.inl rfl)) (fun _ _ _ _ _ => pts_nil) (fun _ _ _ _ _ => (pe_op op_add_str (pe_op op_add_str pe_str (pv 3)) pe_str)))
    (pss_cons (ps_set (i := 1) sc_l_heads.nd rfl (Or.inl rfl) (pe_op op_cat' (pv 1) (pe_lst' (pa_cons pe_str (pa_cons pe_str (pa_cons pe_str (pa_cons pe_str (pa_cons pe_str pa_nil))))))))
    (pss_cons (ps_set (i := 2) sc_l_heads.nd rfl (Or.inl rfl) (pe_lst' (pa_cons pe_str (pa_cons pe_str (pa_cons pe_str (pa_cons pe_str (pa_cons pe_str (pa_cons pe_str (pa_cons pe_str (pa_cons pe_str (pa_cons pe_str (pa_cons pe_str (pa_cons (pe_op op_add_str pe_str (pe_op op_mulS pe_str pe_int)) pa_nil)))))))))))))
    (pss_cons (ps_set (i := 1) sc_l_heads.nd rfl (Or.inl rfl) (pe_op op_cat' (pv 1) (pe_lc (own := [("_law_word", 3)]) (g := (gName 3)) (tt := tYes) rfl sc_l_heads.nd (pi_list (pe_op op_cat' (pv 2) (pe_lst' (pa_cons (pe_op op_mulS pe_str pe_int) (pa_cons (pe_op op_mulS pe_str pe_int) (pa_cons pe_str pa_nil)))))) (blkOk_by (own := [("_law_word", 3)]) (N := N_l_heads) (sc := defScope s_l_heads) (by decide +kernel)) (fun _ _ _ _ _ => pg_name (i := 3) sc_l_heads.nd rfl (Or.inl rfl)) (fun _ _ _ _ _ => pts_nil) (fun _ _ _ _ _ => (pe_op op_add_str pe_str (pv 3))))))
    (pss_cons (ps_set (i := 1) sc_l_heads.nd rfl (Or.inl rfl) (pe_op op_cat' (pv 1) (pe_lst' (pa_cons pe_str (pa_cons pe_str (pa_cons pe_str (pa_cons pe_str pa_nil)))))))
    (pss_one (ps_ret (pe_op op_cat' (pv 1) (pe_lst' (pa_cons pe_str (pa_cons pe_str (pa_cons pe_str (pa_cons pe_str pa_nil)))))))))))))), ?_⟩
  refine ⟨_, _, rfl, rfl, by decide +kernel, by decide, by decide, szr, fun l1 H1 n1 s1 h1 => ?_⟩
  have a1 : AllV 10001 [V.str "0", .str "25", .str "01", .str "-1", .str "+1", .str "", .str "1 1", .str "a", .str "1.0", .str "1\t", .str (Txt.mul "9" 5000), .str "00", .str "1_0", .str " 1", .str "24", .str "1"] := (AllV.cons (TxL.by (by decide +kernel)) (AllV.cons (TxL.by (by decide +kernel)) (AllV.cons (TxL.by (by decide +kernel)) (AllV.cons (TxL.by (by decide +kernel)) (AllV.cons (TxL.by (by decide +kernel)) (AllV.cons (TxL.by (by decide +kernel)) (AllV.cons (TxL.by (by decide +kernel)) (AllV.cons (TxL.by (by decide +kernel)) (AllV.cons (TxL.by (by decide +kernel)) (AllV.cons (TxL.by (by decide +kernel)) (AllV.cons ((TxL.mul (n := 2) (TxL.by (by decide +kernel)) (by decide)).mono (by decide)) (AllV.by (ts := ["00", "1_0", " 1", "24", "1"]) (by decide +kernel)))))))))))))
  have l16 : [V.str "0", .str "25", .str "01", .str "-1", .str "+1", .str "", .str "1 1", .str "a", .str "1.0", .str "1\t", .str (Txt.mul "9" 5000), .str "00", .str "1_0", .str " 1", .str "24", .str "1"].length = 16 := rfl
  generalize [V.str "0", .str "25", .str "01", .str "-1", .str "+1", .str "", .str "1 1", .str "a", .str "1.0", .str "1\t", .str (Txt.mul "9" 5000), .str "00", .str "1_0", .str " 1", .str "24", .str "1"] = xs1 at h1 a1 l16
  refine ⟨_, rfl, l1, rfl, ⟨_, SqL.of h1⟩, fun D hD => lc_list (K := K) (a := l1) (xs := xs1) (fun i H' => Same H1 H' ∧ ∃ ys, H' D = some (.lst ys) ∧ ys.length = i ∧ AllV 11000 ys) ?_ ?_ ?_ ?_⟩
  · exact ⟨same_new hD, _, upd_same, rfl, .nil⟩
  · rintro i H' _ ⟨s2, _⟩
    exact SqL.of (s2 _ _ h1)
  · rintro i y H' hx ⟨s2, ys, h2, yl, ay⟩
    obtain ⟨wd, rfl, tw⟩ := a1 y (List.mem_of_getElem? hx)
    have il := (List.getElem?_eq_some_iff.mp hx).1
    have t1 : TxL 10006 (("plan " : Str) ++ wd) := ((TxL.by (n := 5) (by decide +kernel)).app tw).mono (by decide)
    refine ⟨rfl, _, rfl, _, _, rfl, rfl, ?_, _, _, rfl, rfl, ?_, _, h2, szl (by omega), same_mut s2 hD, ys ++ [_], by rw [upd_same], by rw [List.length_append, yl]; rfl, ay.app (.cons ((t1.app (TxL.by (n := 7) (by decide +kernel))).mono (by decide)) .nil)⟩
    · have := tw.len
      have e : ("plan " : Str).length = 5 := by decide +kernel
      exact sz (by omega)
    · have := t1.len
      have e : ("\nbase 0" : Str).length = 7 := by decide +kernel
      exact sz (by omega)
  rintro H2 ⟨s2, ys, h2, yl, ay⟩
  have S2 := s1.trans s2
  refine ⟨_, rfl, szr, fun l2 H3 n3 s3 h3 => ⟨D, l2, ys, _, rfl, rfl, s3 _ _ h2, h3, sz (by show ys.length + 5 ≤ _; omega), fun l3 H4 n4 s4 h4 => ?_⟩⟩
  have a4 : AllV 11000 (ys ++ [V.str "plan", .str "Plan 1\nbase 0", .str "plan 1", .str "plan  1\nbase 0", .str ""]) := ay.app (AllV.by (ts := ["plan", "Plan 1\nbase 0", "plan 1", "plan  1\nbase 0", ""]) (by decide +kernel))
  have l4 : (ys ++ [V.str "plan", .str "Plan 1\nbase 0", .str "plan 1", .str "plan  1\nbase 0", .str ""]).length = 21 := by rw [List.length_append, yl, l16]; rfl
  generalize ys ++ [V.str "plan", .str "Plan 1\nbase 0", .str "plan 1", .str "plan  1\nbase 0", .str ""] = z4 at h4 a4 l4
  have m7 : (Txt.mul "7" 5000).length ≤ 5000 := ((TxL.mul (n := 1) (a := "7") (TxL.by (by decide +kernel)) (k := 5000) (by decide)).mono (by decide)).len
  have e1 : (" " : Str).length = 1 := by decide +kernel
  refine ⟨_, _, rfl, rfl, by decide +kernel, by decide, by decide, _, _, rfl, rfl, sz (by omega), szr, fun l5 H5 n5 s5 h5 => ?_⟩
  have a5 : AllV 10001 [V.str "", .str " ", .str " 8", .str " 0 8", .str " 00", .str " -1", .str " 0  0", .str " 0 ", .str " a", .str " 0,0", .str (" " ++ Txt.mul "7" 5000)] := (AllV.cons (TxL.by (by decide +kernel)) (AllV.cons (TxL.by (by decide +kernel)) (AllV.cons (TxL.by (by decide +kernel)) (AllV.cons (TxL.by (by decide +kernel)) (AllV.cons (TxL.by (by decide +kernel)) (AllV.cons (TxL.by (by decide +kernel)) (AllV.cons (TxL.by (by decide +kernel)) (AllV.cons (TxL.by (by decide +kernel)) (AllV.cons (TxL.by (by decide +kernel)) (AllV.cons (TxL.by (by decide +kernel)) (AllV.cons (((TxL.by (n := 1) (by decide +kernel)).app (TxL.mul (n := 2) (TxL.by (by decide +kernel)) (by decide))).mono (by decide)) AllV.nil)))))))))))
  have l5l : [V.str "", .str " ", .str " 8", .str " 0 8", .str " 00", .str " -1", .str " 0  0", .str " 0 ", .str " a", .str " 0,0", .str (" " ++ Txt.mul "7" 5000)].length = 11 := rfl
  generalize [V.str "", .str " ", .str " 8", .str " 0 8", .str " 00", .str " -1", .str " 0  0", .str " 0 ", .str " a", .str " 0,0", .str (" " ++ Txt.mul "7" 5000)] = z5 at h5 a5 l5l
  refine ⟨_, rfl, _, rfl, _, _, rfl, rfl, by decide +kernel, by decide, by decide, _, _, rfl, rfl, by decide +kernel, by decide, by decide, szr, fun l6 H6 n6 s6 h6 => ⟨l5, l6, z5, _, rfl, rfl, s6 _ _ h5, h6, sz (by show z5.length + 3 ≤ _; omega), fun l7 H7 n7 s7 h7 => ?_⟩⟩
  have a7 : AllV 10001 (z5 ++ [V.str (Txt.mul " 0" 25), .str (Txt.mul " 0" 24), .str " 7"]) := a5.app (AllV.cons ((TxL.mul (n := 2) (TxL.by (by decide +kernel)) (by decide)).mono (by decide)) (AllV.cons ((TxL.mul (n := 2) (TxL.by (by decide +kernel)) (by decide)).mono (by decide)) (AllV.by (ts := [" 7"]) (by decide +kernel))))
  have l7l : (z5 ++ [V.str (Txt.mul " 0" 25), .str (Txt.mul " 0" 24), .str " 7"]).length = 14 := by rw [List.length_append, l5l]; rfl
  generalize z5 ++ [V.str (Txt.mul " 0" 25), .str (Txt.mul " 0" 24), .str " 7"] = z7 at h7 a7 l7l
  refine ⟨l7, rfl, ⟨_, SqL.of h7⟩, fun D2 hD2 => lc_list (K := K) (a := l7) (xs := z7) (fun i H' => Same H7 H' ∧ ∃ ys, H' D2 = some (.lst ys) ∧ ys.length = i ∧ AllV 11000 ys) ?_ ?_ ?_ ?_⟩
  · exact ⟨same_new hD2, _, upd_same, rfl, .nil⟩
  · rintro i H' _ ⟨s2, _⟩
    exact SqL.of (s2 _ _ h7)
  · rintro i y H' hx ⟨s2, ys, h2, yl, ay⟩
    obtain ⟨wd, rfl, tw⟩ := a7 y (List.mem_of_getElem? hx)
    have il := (List.getElem?_eq_some_iff.mp hx).1
    refine ⟨rfl, _, rfl, _, _, rfl, rfl, ?_, _, h2, szl (by omega), same_mut s2 hD2, ys ++ [_], by rw [upd_same], by rw [List.length_append, yl]; rfl, ay.app (.cons (((TxL.by (n := 11) (by decide +kernel)).app tw).mono (by decide)) .nil)⟩
    have := tw.len
    have e : ("plan 3\nbase" : Str).length = 11 := by decide +kernel
    exact sz (by omega)
  rintro H8 ⟨s8, ys8, h8, yl8, ay8⟩
  have S4 := S2.trans (s3.trans s4)
  have S8 := s5.trans (s6.trans (s7.trans s8))
  refine ⟨l3, D2, z4, ys8, rfl, rfl, S8 _ _ h4, h8, sz (by omega), fun l9 H9 n9 s9 h9 => ?_⟩
  have a9 : AllV 11000 (z4 ++ ys8) := a4.app ay8
  have l9l : (z4 ++ ys8).length = 35 := by rw [List.length_append, l4, yl8, l7l]
  generalize z4 ++ ys8 = z9 at h9 a9 l9l
  refine ⟨_, rfl, szr, fun l10 H10 n10 s10 h10 => ⟨l9, l10, z9, _, rfl, rfl, s10 _ _ h9, h10, sz (by show z9.length + 4 ≤ _; omega), fun l11 H11 n11 s11 h11 => ?_⟩⟩
  have a11 : AllV 11000 (z9 ++ [V.str "plan 1\n", .str "plan 1\nBase 0", .str "plan 1\nbase\t0", .str "\nbase 0"]) := a9.app (AllV.by (ts := ["plan 1\n", "plan 1\nBase 0", "plan 1\nbase\t0", "\nbase 0"]) (by decide +kernel))
  have l11l : (z9 ++ [V.str "plan 1\n", .str "plan 1\nBase 0", .str "plan 1\nbase\t0", .str "\nbase 0"]).length = 39 := by rw [List.length_append, l9l]; rfl
  generalize z9 ++ [V.str "plan 1\n", .str "plan 1\nBase 0", .str "plan 1\nbase\t0", .str "\nbase 0"] = z11 at h11 a11 l11l
  refine ⟨_, rfl, szr, fun l12 H12 n12 s12 h12 => ⟨l11, l12, z11, _, rfl, rfl, s12 _ _ h11, h12, sz (by show z11.length + 4 ≤ _; omega), fun l13 H13 n13 s13 h13 => ?_⟩⟩
  have S11 := S4.trans (S8.trans (s9.trans (s10.trans s11)))
  exact k l13 H13 _ (S11.trans (s12.trans s13)) h13 (by rw [List.length_append, l11l]; decide) ((a11.app (AllV.by (ts := ["plan 1\nbarrier", " plan 1\nbase 0", "plan 1 \nbase 0", "plan 1\n base 0"]) (by decide +kernel))).mono (by decide))
theorem ok_tails {f : Addr} {fd : FuncData} (F : Fun K "_law_tails" "_law_tails" s_l_tails f fd) (T : Txt mg) : FnOk P w K mg base CX0 1 f fd [] (sp_txts 100) := by
  refine F.ok sc_l_tails (fun vs H Q E h => ?_) (fun cdv A outer s H vs Q E hr h => ?_)
  · obtain ⟨rfl, _⟩ := h
    rfl
  obtain ⟨rfl, k⟩ := h
  refine ⟨_, (pss_cons (ps_set (i := 0) sc_l_tails.nd rfl (Or.inl rfl) (pe_lst' (pa_cons pe_str (pa_cons pe_str (pa_cons pe_str (pa_cons pe_str (pa_cons pe_str (pa_cons pe_str (pa_cons pe_str (pa_cons pe_str pa_nil))))))))))
    (pss_cons (ps_set (i := 0) sc_l_tails.nd rfl (Or.inl rfl) (pe_op op_cat' (pv 0) (pe_lst' (pa_cons pe_str (pa_cons pe_str (pa_cons pe_str (pa_cons pe_str (pa_cons pe_str (pa_cons pe_str (pa_cons pe_str (pa_cons pe_str (pa_cons pe_str pa_nil))))))))))))
    (pss_cons (ps_set (i := 0) sc_l_tails.nd rfl (Or.inl rfl) (pe_op op_cat' (pv 0) (pe_lst' (pa_cons pe_str (pa_cons pe_str (pa_cons pe_str (pa_cons pe_str (pa_cons pe_str (pa_cons pe_str (pa_cons pe_str pa_nil))))))))))
    (pss_cons (ps_set (i := 0) sc_l_tails.nd rfl (Or.inl rfl) (pe_op op_cat' (pv 0) (pe_lst' (pa_cons pe_str (pa_cons pe_str (pa_cons pe_str (pa_cons pe_str (pa_cons pe_str (pa_cons pe_str (pa_cons pe_str pa_nil))))))))))
    (pss_cons (ps_set (i := 0) sc_l_tails.nd rfl (Or.inl rfl) (pe_op op_cat' (pv 0) (pe_lst' (pa_cons pe_str (pa_cons pe_str (pa_cons pe_str pa_nil))))))
    (pss_cons (ps_for PassesOwn.never rfl (pi_tup (pe_tup' (pa_cons pe_str (pa_cons pe_str (pa_cons pe_str pa_nil))))) (pg_name (i := 1) sc_l_tails.nd rfl (Or.inl rfl))
      (pss_one (ps_set (i := 0) sc_l_tails.nd rfl (Or.inl rfl) (pe_op op_cat' (pv 0) (pe_lst' (pa_cons (pe_op op_add_str (pe_op op_add_str pe_str (pe_op op_mulS (pv 1) pe_int)) pe_str) (pa_cons (pe_op op_add_str pe_str (pe_op op_mulS (pv 1) pe_int)) pa_nil)))))))
    (pss_cons (ps_set (i := 2) sc_l_tails.nd rfl (Or.inl rfl) (pe_lst' pa_nil))
    (pss_cons (ps_for PassesOwn.never rfl (pi_list (pv 0)) (pg_name (i := 3) sc_l_tails.nd rfl (Or.inl rfl))
      (pss_one (ps_set (i := 2) sc_l_tails.nd rfl (Or.inl rfl) (pe_op op_cat' (pv 2) (pe_lst' (pa_cons (pe_op op_add_str pe_str (pv 3)) (pa_cons (pe_op op_add_str (pe_op op_add_str pe_str (pv 3)) pe_str) pa_nil)))))))
    (pss_one (ps_ret (pv 2))))))))))), ?_⟩
  refine ⟨szr, fun l1 H1 n1 s1 h1 => ?_⟩
  refine ⟨_, rfl, szr, fun l2 H2 n2 s2 h2 => ⟨l1, l2, _, _, rfl, rfl, s2 _ _ h1, h2, sz (by decide), fun l3 H3 n3 s3 h3 => ?_⟩⟩
  refine ⟨_, rfl, szr, fun l4 H4 n4 s4 h4 => ⟨l3, l4, _, _, rfl, rfl, s4 _ _ h3, h4, sz (by decide), fun l5 H5 n5 s5 h5 => ?_⟩⟩
  refine ⟨_, rfl, szr, fun l6 H6 n6 s6 h6 => ⟨l5, l6, _, _, rfl, rfl, s6 _ _ h5, h6, sz (by decide), fun l7 H7 n7 s7 h7 => ?_⟩⟩
  refine ⟨_, rfl, szr, fun l8 H8 n8 s8 h8 => ⟨l7, l8, _, _, rfl, rfl, s8 _ _ h7, h8, sz (by decide), fun l9 H9 n9 s9 h9 => ?_⟩⟩
  obtain ⟨z9, hz9, a9, l9l⟩ : ∃ z, H9 l9 = some (.lst z) ∧ AllV 20 z ∧ z.length = 34 := ⟨_, h9, (((((AllV.by (ts := ["barrier", "write 0 1", "write 2 7", "write 0 1 2 3", "write 3 0", "write 0", "write", "write 1 1 2 3"]) (by decide +kernel)).app
    (AllV.by (ts := ["write 0 8", "", " ", "barrier ", " barrier", "Barrier", "barriers", "barrier 0", "write 00 1"]) (by decide +kernel))).app
    (AllV.by (ts := ["write 0 01", "write -1 0", "write  0 1", "write 0  1", "write 0 1 ", "write\t0 1", "write 0 a"]) (by decide +kernel))).app
    (AllV.by (ts := ["write a 0", "write 0,1", "none", "write 0 1\t", "base 0 0 0", "plan 1", "write +0 1"]) (by decide +kernel))).app
    (AllV.by (ts := ["Write 0 1", "BARRIER", "wRITE 0 1"]) (by decide +kernel))), rfl⟩
  clear h9 h8 h7 h6 h5 h4 h3 h2 h1
  have S9 := s1.trans (s2.trans (s3.trans (s4.trans (s5.trans (s6.trans (s7.trans (s8.trans s9)))))))
  clear s1 s2 s3 s4 s5 s6 s7 s8 s9
  refine ⟨szr, fun tp H10 n10 s10 h10 => ?_⟩
  have at3 : AllV 1 [V.str "0", .str "1", .str "9"] := AllV.by (ts := ["0", "1", "9"]) (by decide +kernel)
  have l3l : [V.str "0", .str "1", .str "9"].length = 3 := rfl
  generalize [V.str "0", .str "1", .str "9"] = z3 at h10 at3 l3l
  have e6 : ("write " : Str).length = 6 := by decide +kernel
  have e2 : (" 1" : Str).length = 2 := by decide +kernel
  have e8 : ("write 0 " : Str).length = 8 := by decide +kernel
  refine ⟨tp, rfl, ⟨_, SqT.of h10⟩, for_tup (K := K) (a := tp) (xs := z3) (fun i σ' H' => ∃ r z v1, σ' = [some (.ref r), v1, none, none] ∧ Same H10 H' ∧ H' r = some (.lst z) ∧ z.length = 34 + 2 * i ∧ AllV 11000 z) ?_ ?_ ?_ ?_⟩
  · exact ⟨l9, z9, _, rfl, Same.refl _, s10 _ _ hz9, l9l, a9.mono (by decide)⟩
  · rintro i σ' H' _ ⟨r, z, v1, rfl, s2, _⟩
    exact SqT.of (s2 _ _ h10)
  · rintro i y σ' G hx ⟨r, z, v1, rfl, s2, hr, zl, az⟩
    obtain ⟨sg, rfl, ts⟩ := at3 y (List.mem_of_getElem? hx)
    have il := (List.getElem?_eq_some_iff.mp hx).1
    have tm : TxL 5000 (Txt.mul sg 5000) := (ts.mul (k := 5000) (by decide)).mono (by decide)
    have tml := tm.len
    have sgl := ts.len
    have t1 : TxL 5006 (("write " : Str) ++ Txt.mul sg 5000) := (TxL.by (n := 6) (by decide +kernel)).app tm
    have t1l := t1.len
    refine ⟨_, rfl, _, rfl, _, _, rfl, rfl, by omega, by decide, by decide, _, _, rfl, rfl, sz (by omega), _, _, rfl, rfl, sz (by omega), _, rfl, _, _, rfl, rfl, by omega, by decide, by decide, _, _, rfl, rfl, sz (by omega), szr, fun la G1 n1 g1 h1 => ⟨r, la, z, _, rfl, rfl, g1 _ _ hr, h1, sz (by show z.length + 2 ≤ _; omega), fun lb G2 n2 g2 h2 => ?_⟩⟩
    refine ⟨lb, _, _, rfl, s2.trans (g1.trans g2), h2, by rw [List.length_append, zl]; show 34 + 2 * i + 2 = _; omega, az.app (.cons ((t1.app (TxL.by (n := 2) (by decide +kernel))).mono (by decide)) (.cons (((TxL.by (n := 8) (by decide +kernel)).app tm).mono (by decide)) .nil))⟩
  · rintro σ' G ⟨r, z, v1, rfl, s2, hr, zl, az⟩
    rw [l3l] at zl
    refine ⟨szr, fun lf G1 n1 g1 h1 => ?_⟩
    have hr1 := g1 _ _ hr
    have d1 : ("plan 2\nbase 0 0 0\n" : Str).length = 18 := by decide +kernel
    have d2 : ("plan 2\nbase 0 0 0\nbarrier\n" : Str).length = 26 := by decide +kernel
    have d3 : ("\nwrite 0 1" : Str).length = 10 := by decide +kernel
    refine ⟨_, rfl, r, rfl, ⟨_, SqL.of hr1⟩, for_list (K := K) (a := r) (xs := z) (fun i σ' H' => ∃ lf zf v3, σ' = [some (.ref r), v1, some (.ref lf), v3] ∧ Same G1 H' ∧ H' lf = some (.lst zf) ∧ zf.length = 2 * i ∧ AllV 12000 zf) ?_ ?_ ?_ ?_⟩
    · exact ⟨lf, [], _, rfl, Same.refl _, h1, rfl, .nil⟩
    · rintro i σ' H' _ ⟨lf, zf, v3, rfl, s3, _⟩
      exact SqL.of (s3 _ _ hr1)
    · rintro i y σ' G2 hx ⟨lf, zf, v3, rfl, s3, hf, fl, af⟩
      obtain ⟨rw', rfl, tr⟩ := az y (List.mem_of_getElem? hx)
      have il := (List.getElem?_eq_some_iff.mp hx).1
      have trl := tr.len
      have t2 : TxL 11026 (("plan 2\nbase 0 0 0\nbarrier\n" : Str) ++ rw') := ((TxL.by (n := 26) (by decide +kernel)).app tr).mono (by decide)
      have t2l := t2.len
      refine ⟨_, rfl, _, rfl, _, _, rfl, rfl, sz (by omega), _, rfl, _, _, rfl, rfl, sz (by omega), _, _, rfl, rfl, sz (by omega), szr, fun la G3 n3 g3 h3 => ⟨lf, la, zf, _, rfl, rfl, g3 _ _ hf, h3, sz (by show zf.length + 2 ≤ _; omega), fun lb G4 n4 g4 h4 => ?_⟩⟩
      exact ⟨lb, _, _, rfl, s3.trans (g3.trans g4), h4, by rw [List.length_append, fl]; show 2 * i + 2 = _; omega, af.app (.cons (((TxL.by (n := 18) (by decide +kernel)).app tr).mono (by decide)) (.cons ((t2.app (TxL.by (n := 10) (by decide +kernel))).mono (by decide)) .nil))⟩
    · rintro σ' G2 ⟨lf, zf, v3, rfl, s3, hf, fl, af⟩
      have S := S9.trans (s10.trans (s2.trans (g1.trans s3)))
      exact ⟨_, rfl, k lf G2 zf S hf (by omega) af⟩
end
end Af

set_option Elab.async false
set_option linter.all false
set_option maxRecDepth 100000
set_option maxHeartbeats 8000000
namespace Af
open PySem L2
abbrev s_law : Stmt := top 44
abbrev N_law : List Str := ["_law_script", "_law_thing", "_law_wide", "_law_row", "_law_count", "_law_more", "_law_many"]
theorem sc_law : FnScope N_law ["_law_script"] (defScope s_law) := ⟨rfl, rfl, rfl, by decide +kernel, rfl, by decide +kernel, by decide +kernel⟩

def sp_law (K : PySem.W.Frag) : Sp := fun vs H Q _ => ∃ (a : Addr) (ns : List Int), vs = [.ref a] ∧ SqL K H a (ns.map V.int) ∧ ∀ H', Q (.bl true) H'
def DV (K : PySem.W.Frag) (H : Hp) (x : V) : Prop := ∃ (n : String) (d : PyData), Ty K H x n ∧ isB n "str" = false ∧ Dx K H x d ∧ d.showable = true ∧ d.depth ≤ 60 ∧ d.shown.length ≤ sizeLine
section
variable {P : Program} {w : World} {K : PySem.W.Frag} {mg : Str → Option Value} {base : Heap}
theorem ok_law {f : Addr} {fd : FuncData} (F : Fun K "law" "law" s_law f fd) (T : Txt mg) (c_l_read_right : CalG P w K mg base 10 "_law_read_right" ["_law_thing"] (sp_rr K)) (c_l_heads : Cal P w K mg base 1 "_law_heads" [] (sp_txts 100)) (c_l_tails : Cal P w K mg base 1 "_law_tails" [] (sp_txts 100)) : FnG P w K mg base 11 f fd ["_law_script"] (sp_law K) := by
  refine okG F sc_law (fun vs H Q E h => ?_) (fun cdv A outer s H vs Q E hr hg h => ?_)
  · obtain ⟨_, _, rfl, _⟩ := h
    rfl
  obtain ⟨a, ns, rfl, ha, k⟩ := h
  refine ⟨_, (pss_cons (ps_for PassesOwn.never rfl (pi_list (pe_op op_cat' (pe_cal0 c_l_heads hr) (pe_cal0 c_l_tails hr))) (pg_name (i := 1) sc_law.nd rfl (Or.inl rfl))
      (pss_one (ps_if (pt_not (pt_val (pe_calG c_l_read_right hr hg (pa_cons (pv 1) pa_nil))))
      (pss_one (ps_ret pe_bl))
      pss_nil)))
    (pss_cons (ps_for PassesOwn.never rfl (pi_tup (pe_tup' (pa_cons pe_non (pa_cons pe_int (pa_cons pe_bl (pa_cons (pe_lst' pa_nil) (pa_cons (pe_tup' pa_nil) (pa_cons pe_dnewK (pa_cons (pe_lst' (pa_cons pe_str (pa_cons pe_str pa_nil))) (pa_cons (pe_tup' (pa_cons pe_str pa_nil)) (pa_cons (pe_disp (pps_cons pe_str pe_int pps_nil) rfl rfl (by simp) (by decide)) pa_nil))))))))))) (pg_name (i := 1) sc_law.nd rfl (Or.inl rfl))
      (pss_one (ps_if (pt_not (pt_val (pe_calG c_l_read_right hr hg (pa_cons (pv 1) pa_nil))))
      (pss_one (ps_ret pe_bl))
      pss_nil)))
    (pss_cons (ps_set (i := 2) sc_law.nd rfl (Or.inl rfl) (pe_op op_add_str pe_str (pe_op op_mulS pe_str pe_int)))
    (pss_cons (ps_for PassesOwn.never rfl (pi_tup (pe_tup' (pa_cons (pe_tup' (pa_cons pe_str (pa_cons pe_int pa_nil))) (pa_cons (pe_tup' (pa_cons pe_str (pa_cons pe_int pa_nil))) (pa_cons (pe_tup' (pa_cons (pe_op op_add_str pe_str (pe_op op_mulS pe_str pe_int)) (pa_cons pe_int pa_nil))) (pa_cons (pe_tup' (pa_cons (pe_op op_add_str pe_str (pe_op op_mulS pe_str pe_int)) (pa_cons pe_int pa_nil))) pa_nil)))))) (pg_tup rfl (pgs_cons (pg_name (i := 3) sc_law.nd rfl (Or.inl rfl)) (pgs_cons (pg_name (i := 4) sc_law.nd rfl (Or.inl rfl)) pgs_nil)))
      (pss_one (ps_if (pt_not (pt_val (pe_calG c_l_read_right hr hg (pa_cons (pe_op op_add_str (pv 2) (pe_op op_mulS (pe_op op_add_str pe_str (pv 3)) (pv 4))) pa_nil))))
      (pss_one (ps_ret pe_bl))
      pss_nil)))
    (pss_cons (ps_if (pt_not (pt_val (pe_calG c_l_read_right hr hg (pa_cons (pe_op op_add_str (pe_op op_add_str (pe_op op_add_str (pe_op op_add_str (pe_op op_add_str (pv 2) pe_str) (pe_op op_mulS pe_str pe_int)) pe_str) (pe_op op_mulS pe_str pe_int)) pe_str) pa_nil))))
      (pss_one (ps_ret pe_bl))
      pss_nil)
    (pss_cons (ps_for PassesOwn.never rfl (pi_tup (pe_tup' (pa_cons pe_str (pa_cons pe_str (pa_cons pe_str (pa_cons pe_str pa_nil)))))) (pg_name (i := 3) sc_law.nd rfl (Or.inl rfl))
      (pss_one (ps_for PassesOwn.never rfl (pi_tup (pe_tup' (pa_cons (pe_op op_mulS pe_str pe_int) (pa_cons (pe_op op_mulS pe_str pe_int) (pa_cons (pe_op op_add_str (pe_op op_mulS pe_str pe_int) pe_str) pa_nil))))) (pg_name (i := 5) sc_law.nd rfl (Or.inl rfl))
      (pss_cons (ps_if (pt_not (pt_val (pe_calG c_l_read_right hr hg (pa_cons (pe_op op_add_str (pe_op op_add_str pe_str (pv 3)) (pv 5)) pa_nil))))
      (pss_one (ps_ret pe_bl))
      pss_nil)
    (pss_one (ps_if (pt_not (pt_val (pe_calG c_l_read_right hr hg (pa_cons (pe_op op_add_str (pe_op op_add_str (pe_op op_add_str pe_str (pv 5)) pe_str) (pv 3)) pa_nil))))
      (pss_one (ps_ret pe_bl))
      pss_nil))))))
    (pss_cons (ps_set (i := 6) sc_law.nd rfl (Or.inl rfl) (pe_op op_mulS pe_str pe_int))
    (pss_one (ps_ret (pe_and (pe_calG c_l_read_right hr hg (pa_cons (pe_op op_add_str (pe_op op_add_str pe_str (pv 6)) pe_str) pa_nil)) (pe_one (pe_calG c_l_read_right hr hg (pa_cons (pe_op op_add_str pe_str (pv 6)) pa_nil))))))))))))), ?_⟩
  refine ⟨rfl, fun lh H1 hs s1 h1 hl ah => ⟨rfl, fun lt H2 ts s2 h2 tl at' => ⟨lh, lt, hs, ts, rfl, rfl, s2 _ _ h1, h2, sz (by omega), fun l H3 n3 s3 h3 => ?_⟩⟩⟩
  have a3 : AllV 12000 (hs ++ ts) := ah.app at'
  have rr : ∀ {t : Str} {n : Nat}, TxL n t → n ≤ 50000 → t.length ≤ 50000 ∧ ∀ c ∈ TL.tl t, c < 16 ^ 8 := fun h l => ⟨Nat.le_trans h.len l, h.chr⟩
  refine ⟨l, rfl, ⟨_, SqL.of h3⟩, for_list (K := K) (a := l) (xs := hs ++ ts) (fun i σ' H' => ∃ v1, σ' = [some (.ref a), v1, none, none, none, none, none] ∧ H' l = some (.lst (hs ++ ts))) ?_ ?_ ?_ ?_⟩
  · exact ⟨_, rfl, h3⟩
  · rintro i σ' H' _ ⟨v1, rfl, h⟩
    exact SqL.of h
  · rintro i y σ' G hx ⟨v1, rfl, h⟩
    obtain ⟨t, rfl, tx⟩ := a3 y (List.mem_of_getElem? hx)
    obtain ⟨r1, r2⟩ := rr tx (by decide)
    exact ⟨_, rfl, .inl ⟨t, rfl, r1, r2, fun G' g' => ⟨_, rfl, iteF ⟨_, rfl, g' _ _ h⟩⟩⟩⟩
  rintro σ' G ⟨v1, rfl, _⟩
  clear h3 s3 h2 s2 h1 s1 ha
  refine ⟨szr, fun e1 G1 n1 g1 h1 => ⟨szr, fun e2 G2 n2 g2 h2 => fun e3 n3 => ?_⟩⟩
  have g3 : Same G2 (upd G2 e3 (.dK [])) := same_new n3
  have h3 : (upd G2 e3 (.dK [])) e3 = some (.dK []) := upd_same
  show tCons _ _ _ (upd G2 e3 (.dK [])) _
  generalize upd G2 e3 (.dK []) = G3 at g3 h3
  refine ⟨szr, fun e4 G4 n4 g4 h4 => ⟨szr, fun e5 G5 n5 g5 h5 => fun e6 n6 => ⟨upd_same, [(.inr "plan 1", .int 0)], rfl, by decide, ?_⟩⟩⟩
  have g6 : Same G5 (upd (upd G5 e6 (.dK [])) e6 (.dK (mergeK [] [(.inr "plan 1", .int 0)]))) := fun b o e => by
    have ne : b ≠ e6 := ne_of_none e n6
    rw [upd_ne ne, upd_ne ne]
    exact e
  have h6 : (upd (upd G5 e6 (.dK [])) e6 (.dK (mergeK [] [(.inr "plan 1", .int 0)]))) e6 = some (.dK [(.inr "plan 1", .int 0)]) := upd_same
  show tNil _ (upd (upd G5 e6 (.dK [])) e6 (.dK (mergeK [] [(.inr "plan 1", .int 0)]))) _
  generalize upd (upd G5 e6 (.dK [])) e6 (.dK (mergeK [] [(.inr "plan 1", .int 0)])) = G6 at g6 h6
  refine ⟨szr, fun tp G7 n7 g7 h7 => ?_⟩
  have T5 := g6.trans g7
  have T4 := g5.trans T5
  have T3 := g4.trans T4
  have T2 := g3.trans T3
  have T1 := g2.trans T2
  have tl : ∀ {b : Addr} {xs : List V}, G7 b = some (.lst xs) → Ty K G7 (.ref b) "list" := fun e => ⟨.lst e, by decide, fun b o u z q => by cases z; rw [e] at q; cases q⟩
  have tt : ∀ {b : Addr} {xs : List V}, G7 b = some (.tup xs) → Ty K G7 (.ref b) "tuple" := fun e => ⟨.tup e, by decide, fun b o u z q => by cases z; rw [e] at q; cases q⟩
  have dv : ∀ x ∈ [V.non, .int 0, .bl true, .ref e1, .ref e2, .ref e3, .ref e4, .ref e5, .ref e6], DV K G7 x := by
    intro x hx
    simp only [List.mem_cons, List.not_mem_nil, or_false] at hx
    rcases hx with rfl | rfl | rfl | rfl | rfl | rfl | rfl | rfl | rfl
    · exact ⟨_, _, ⟨.non, by decide, fun _ _ _ e => by cases e⟩, by decide, .non, rfl, Nat.zero_le 60, sz (by decide +kernel)⟩
    · exact ⟨_, _, ⟨.int 0, by decide, fun _ _ _ e => by cases e⟩, by decide, .int 0, by decide +kernel, Nat.zero_le 60, sz (by decide +kernel)⟩
    · exact ⟨_, _, ⟨.bl true, by decide, fun _ _ _ e => by cases e⟩, by decide, .bl true, rfl, Nat.zero_le 60, sz (by decide +kernel)⟩
    · exact ⟨_, _, tl (T1 _ _ h1), by decide, .lst (T1 _ _ h1) .nil, rfl, by decide, sz (by decide +kernel)⟩
    · exact ⟨_, _, tt (T2 _ _ h2), by decide, .tup (T2 _ _ h2) .nil, rfl, by decide, sz (by decide +kernel)⟩
    · exact ⟨_, _, ty_d (T3 _ _ h3), by decide, .dic (T3 _ _ h3) .nil, rfl, by decide, sz (by decide +kernel)⟩
    · exact ⟨_, _, tl (T4 _ _ h4), by decide, .lst (T4 _ _ h4) (.cons (.str _) (.cons (.str _) .nil)), rfl, by decide, sz (by decide +kernel)⟩
    · exact ⟨_, _, tt (T5 _ _ h5), by decide, .tup (T5 _ _ h5) (.cons (.str _) .nil), rfl, by decide, sz (by decide +kernel)⟩
    · exact ⟨_, _, ty_d (g7 _ _ h6), by decide, .dic (g7 _ _ h6) (.cons (.int 0) .nil), rfl, by decide, sz (by decide +kernel)⟩
  generalize [V.non, .int 0, .bl true, .ref e1, .ref e2, .ref e3, .ref e4, .ref e5, .ref e6] = zs at h7 dv
  clear T1 T2 T3 T4 T5 g1 g2 g3 g4 g5 g6 g7 h1 h2 h3 h4 h5 h6 tl tt n1 n2 n3 n4 n5 n6 n7
  refine ⟨tp, rfl, ⟨_, SqT.of h7⟩, for_tup (K := K) (a := tp) (xs := zs) (fun i σ' H' => ∃ v1, σ' = [some (.ref a), v1, none, none, none, none, none] ∧ Same G7 H') ?_ ?_ ?_ ?_⟩
  · exact ⟨_, rfl, Same.refl _⟩
  · rintro i σ' H' _ ⟨v1, rfl, s⟩
    exact SqT.of (s _ _ h7)
  · rintro i y σ' G8 hx ⟨v1, rfl, s⟩
    obtain ⟨n, d, ty, ns', dx, sh, dp, sl⟩ := dv y (List.mem_of_getElem? hx)
    exact ⟨_, rfl, .inr ⟨y, n, d, rfl, ty.same s, ns', Dx.same s dx, sh, dp, sl, fun G' g' => ⟨_, rfl, iteF ⟨_, rfl, s.trans g'⟩⟩⟩⟩
  rintro σ' G8 ⟨v1, rfl, s8⟩
  have w24 : TxL 48 (Txt.mul " 0" 24) := (TxL.mul (n := 2) (TxL.by (by decide +kernel)) (by decide)).mono (by decide)
  have ww : TxL 59 (("plan 1\nbase" : Str) ++ Txt.mul " 0" 24) := (TxL.by (n := 11) (by decide +kernel)).app w24
  have b24 : TxL 48 (Txt.mul " 1" 24) := (TxL.mul (n := 2) (TxL.by (by decide +kernel)) (by decide)).mono (by decide)
  have bw : TxL 55 (("write 0" : Str) ++ Txt.mul " 1" 24) := (TxL.by (n := 7) (by decide +kernel)).app b24
  have q1 := w24.len
  have q2 := b24.len
  have q3 := ww.len
  have e1 : ("plan 1\nbase" : Str).length = 11 := by decide +kernel
  have e2 : ("write 0" : Str).length = 7 := by decide +kernel
  refine ⟨_, _, rfl, rfl, by decide +kernel, by decide, by decide, _, _, rfl, rfl, sz (by omega), ?_⟩
  refine ⟨szr, fun t1 A1 m1 a1 b1 => ⟨szr, fun t2 A2 m2 a2 b2 => ⟨_, _, rfl, rfl, by decide +kernel, by decide, by decide, _, _, rfl, rfl, sz (by omega), szr, fun t3 A3 m3 a3' b3 => ⟨_, _, rfl, rfl, by decide +kernel, by decide, by decide, _, _, rfl, rfl, sz (by omega), szr, fun t4 A4 m4 a4 b4 => ⟨szr, fun t5 A5 m5 a5 b5 => ?_⟩⟩⟩⟩⟩
  have pv : ∀ x ∈ [V.ref t1, .ref t2, .ref t3, .ref t4], ∃ (b : Addr) (row : Str) (n : Int), x = .ref b ∧ A5 b = some (.tup [.str row, .int n]) ∧ TxL 55 row ∧ 0 ≤ n ∧ n ≤ 41 := by
    intro x hx
    simp only [List.mem_cons, List.not_mem_nil, or_false] at hx
    rcases hx with rfl | rfl | rfl | rfl
    · exact ⟨t1, _, _, rfl, a5 _ _ (a4 _ _ (a3' _ _ (a2 _ _ b1))), TxL.by (by decide +kernel), by decide, by decide⟩
    · exact ⟨t2, _, _, rfl, a5 _ _ (a4 _ _ (a3' _ _ b2)), TxL.by (by decide +kernel), by decide, by decide⟩
    · exact ⟨t3, _, _, rfl, a5 _ _ (a4 _ _ b3), bw, by decide, by decide⟩
    · exact ⟨t4, _, _, rfl, a5 _ _ b4, bw, by decide, by decide⟩
  generalize [V.ref t1, .ref t2, .ref t3, .ref t4] = zs4 at b5 pv
  have wide : TxL 59 (("plan 1\nbase" : Str) ++ Txt.mul " 0" 24) := ww
  generalize ("plan 1\nbase" : Str) ++ Txt.mul " 0" 24 = wd at wide ww q3 ⊢
  clear a1 a2 a3' a4 a5 b1 b2 b3 b4 m1 m2 m3 m4 m5 s8 h7 dv
  refine ⟨t5, rfl, ⟨_, SqT.of b5⟩, for_tup (K := K) (a := t5) (xs := zs4) (fun i σ' H' => ∃ v1 v3 v4, σ' = [some (.ref a), v1, some (.str wd), v3, v4, none, none] ∧ Same A5 H') ?_ ?_ ?_ ?_⟩
  · exact ⟨_, _, _, rfl, Same.refl _⟩
  · rintro i σ' H' _ ⟨v1, v3, v4, rfl, s⟩
    exact SqT.of (s _ _ b5)
  · rintro i y σ' G9 hx ⟨v1, v3, v4, rfl, s⟩
    obtain ⟨b, row, n, rfl, hb, tr, n0, n1⟩ := pv y (List.mem_of_getElem? hx)
    have trl := tr.len
    have v1' : TxL 56 (("\n" : Str) ++ row) := (TxL.by (n := 1) (by decide +kernel)).app tr
    have nn : n.toNat ≤ 41 := by omega
    have v2 : TxL 2296 (Txt.mul (("\n" : Str) ++ row) n) := (v1'.mul n0).mono (Nat.mul_le_mul_left 56 nn)
    have v3' : TxL 2355 (wd ++ Txt.mul (("\n" : Str) ++ row) n) := wide.app v2
    have p1 := v1'.len
    have p2 := v2.len
    have p3 : ("\n" : Str).length = 1 := by decide +kernel
    obtain ⟨r1, r2⟩ := rr v3' (by decide)
    refine ⟨b, _, rfl, SqT.of (s _ _ hb), rfl, _, _, rfl, _, _, rfl, rfl, ?_⟩
    refine ⟨_, rfl, _, rfl, _, _, rfl, rfl, sz (by omega), _, rfl, _, _, rfl, rfl, by omega, n0, by omega, _, _, rfl, rfl, sz (by omega), .inl ⟨_, rfl, r1, r2, fun G' g' => ⟨_, rfl, iteF ⟨_, _, _, rfl, s.trans g'⟩⟩⟩⟩
  rintro σ' G9 ⟨v1, v3, v4, rfl, s9⟩
  have b16 : TxL 32 (Txt.mul " 2" 16) := (TxL.mul (n := 2) (TxL.by (by decide +kernel)) (by decide)).mono (by decide)
  have q4 := b16.len
  have u1 : TxL 67 (wd ++ ("\nwrite 0" : Str)) := wide.app (TxL.by (n := 8) (by decide +kernel))
  have u2 : TxL 115 ((wd ++ ("\nwrite 0" : Str)) ++ Txt.mul " 1" 24) := u1.app b24
  have u3 : TxL 123 (((wd ++ ("\nwrite 0" : Str)) ++ Txt.mul " 1" 24) ++ ("\nwrite 8" : Str)) := u2.app (TxL.by (n := 8) (by decide +kernel))
  have u4 : TxL 155 ((((wd ++ ("\nwrite 0" : Str)) ++ Txt.mul " 1" 24) ++ ("\nwrite 8" : Str)) ++ Txt.mul " 2" 16) := u3.app b16
  have u5 : TxL 173 (((((wd ++ ("\nwrite 0" : Str)) ++ Txt.mul " 1" 24) ++ ("\nwrite 8" : Str)) ++ Txt.mul " 2" 16) ++ ("\nbarrier\nwrite 0 1" : Str)) := u4.app (TxL.by (n := 18) (by decide +kernel))
  have f1 := u1.len
  have f2 := u2.len
  have f3 := u3.len
  have f4 := u4.len
  have f5 : ("\nwrite 0" : Str).length = 8 := by decide +kernel
  have f6 : ("\nwrite 8" : Str).length = 8 := by decide +kernel
  have f7 : ("\nbarrier\nwrite 0 1" : Str).length = 18 := by decide +kernel
  obtain ⟨r1, r2⟩ := rr u5 (by decide)
  refine ⟨_, rfl, _, _, rfl, rfl, sz (by omega), _, _, rfl, rfl, by decide +kernel, by decide, by decide, _, _, rfl, rfl, sz (by omega), _, _, rfl, rfl, sz (by omega), _, _, rfl, rfl, by decide +kernel, by decide, by decide, _, _, rfl, rfl, sz (by omega), _, _, rfl, rfl, sz (by omega), .inl ⟨_, rfl, r1, r2, fun G10 g10 => ⟨_, rfl, iteF ?_⟩⟩⟩
  refine ⟨szr, fun t6 G11 m6 g11 b6 => ?_⟩
  have av4 : AllV 9 [V.str "x", .str "", .str "write 0 8", .str "write 1 0"] := AllV.by (ts := ["x", "", "write 0 8", "write 1 0"]) (by decide +kernel)
  generalize [V.str "x", .str "", .str "write 0 8", .str "write 1 0"] = zr at b6 av4
  have c1 : TxL 328 (Txt.mul "\nbarrier" 41) := (TxL.mul (n := 8) (TxL.by (by decide +kernel)) (by decide)).mono (by decide)
  have c2 : TxL 410 (Txt.mul "\nwrite 0 1" 41) := (TxL.mul (n := 10) (TxL.by (by decide +kernel)) (by decide)).mono (by decide)
  have c3 : TxL 320 (Txt.mul "\nbarrier" 40) := (TxL.mul (n := 8) (TxL.by (by decide +kernel)) (by decide)).mono (by decide)
  have c4 : TxL 330 (Txt.mul "\nbarrier" 40 ++ ("\nwrite 0 1" : Str)) := c3.app (TxL.by (n := 10) (by decide +kernel))
  have c5 : TxL 400 (Txt.mul "\nwrite 0 1" 40) := (TxL.mul (n := 10) (TxL.by (by decide +kernel)) (by decide)).mono (by decide)
  have c3l := c3.len
  have d10 : ("\nwrite 0 1" : Str).length = 10 := by decide +kernel
  have d14 : ("plan 1\nbase 0\n" : Str).length = 14 := by decide +kernel
  have d13 : ("plan 1\nbase 0" : Str).length = 13 := by decide +kernel
  have d15 : ("plan 24\nbase 0" : Str).length = 14 := by decide +kernel
  have d1 : ("\n" : Str).length = 1 := by decide +kernel
  refine ⟨t6, rfl, ⟨_, SqT.of b6⟩, for_tup (K := K) (a := t6) (xs := zr) (fun i σ' H' => ∃ v1 v3 v4 v5, σ' = [some (.ref a), v1, some (.str wd), v3, v4, v5, none] ∧ Same G11 H') ?_ ?_ ?_ ?_⟩
  · exact ⟨_, _, _, _, rfl, Same.refl _⟩
  · rintro i σ' H' _ ⟨v1, v3, v4, v5, rfl, s⟩
    exact SqT.of (s _ _ b6)
  · rintro i y σ' A6 hx ⟨v1, v3, v4, v5, rfl, s⟩
    obtain ⟨row, rfl, tr⟩ := av4 y (List.mem_of_getElem? hx)
    have trl := tr.len
    refine ⟨_, _, rfl, rfl, by decide +kernel, by decide, by decide, _, _, rfl, rfl, by decide +kernel, by decide, by decide, _, _, rfl, rfl, by decide +kernel, by decide, by decide, _, _, rfl, rfl, sz (by omega), szr, fun t7 A7 m7 a7 b7 => ?_⟩
    have av3 : AllV 410 [V.str (Txt.mul "\nbarrier" 41), .str (Txt.mul "\nwrite 0 1" 41), .str (Txt.mul "\nbarrier" 40 ++ "\nwrite 0 1")] := .cons (c1.mono (by decide)) (.cons (c2.mono (by decide)) (.cons (c4.mono (by decide)) .nil))
    generalize [V.str (Txt.mul "\nbarrier" 41), .str (Txt.mul "\nwrite 0 1" 41), .str (Txt.mul "\nbarrier" 40 ++ "\nwrite 0 1")] = zm at b7 av3
    refine ⟨t7, rfl, ⟨_, SqT.of b7⟩, for_tup (K := K) (a := t7) (xs := zm) (fun i σ' H' => ∃ v1 v4 v5, σ' = [some (.ref a), v1, some (.str wd), some (.str row), v4, v5, none] ∧ Same A7 H') ?_ ?_ ?_ ?_⟩
    · exact ⟨_, _, _, rfl, Same.refl _⟩
    · rintro i σ' H' _ ⟨v1, v4, v5, rfl, s⟩
      exact SqT.of (s _ _ b7)
    · rintro i y σ' A8 hx ⟨v1, v4, v5, rfl, s8⟩
      obtain ⟨more, rfl, tm⟩ := av3 y (List.mem_of_getElem? hx)
      have tml := tm.len
      have k1 : TxL 23 (("plan 1\nbase 0\n" : Str) ++ row) := (TxL.by (n := 14) (by decide +kernel)).app tr
      have k2 : TxL 433 ((("plan 1\nbase 0\n" : Str) ++ row) ++ more) := k1.app tm
      have k3 : TxL 423 (("plan 1\nbase 0" : Str) ++ more) := (TxL.by (n := 13) (by decide +kernel)).app tm
      have k4 : TxL 424 ((("plan 1\nbase 0" : Str) ++ more) ++ ("\n" : Str)) := k3.app (TxL.by (n := 1) (by decide +kernel))
      have k5 : TxL 433 (((("plan 1\nbase 0" : Str) ++ more) ++ ("\n" : Str)) ++ row) := k4.app tr
      have j1 := k1.len
      have j3 := k3.len
      have j4 := k4.len
      obtain ⟨r1, r2⟩ := rr k2 (by decide)
      obtain ⟨r3, r4⟩ := rr k5 (by decide)
      refine ⟨_, rfl, _, _, rfl, rfl, sz (by omega), _, rfl, _, _, rfl, rfl, sz (by omega), .inl ⟨_, rfl, r1, r2, fun B1 u1 => ⟨_, rfl, iteF ?_⟩⟩⟩
      refine ⟨_, rfl, _, _, rfl, rfl, sz (by omega), _, _, rfl, rfl, sz (by omega), _, rfl, _, _, rfl, rfl, sz (by omega), .inl ⟨_, rfl, r3, r4, fun B2 u2 => ⟨_, rfl, iteF ⟨_, _, _, rfl, s8.trans (u1.trans u2)⟩⟩⟩⟩
    · rintro σ' A8 ⟨v1, v4, v5, rfl, s8⟩
      exact ⟨_, _, _, _, rfl, s.trans (a7.trans s8)⟩
  rintro σ' A9 ⟨v1, v3, v4, v5, rfl, s⟩
  have o1 : TxL 413 (("plan 1\nbase 0" : Str) ++ Txt.mul "\nwrite 0 1" 40) := (TxL.by (n := 13) (by decide +kernel)).app c5
  have o2 : TxL 423 ((("plan 1\nbase 0" : Str) ++ Txt.mul "\nwrite 0 1" 40) ++ ("\nwrite 0 1" : Str)) := o1.app (TxL.by (n := 10) (by decide +kernel))
  have o3 : TxL 414 (("plan 24\nbase 0" : Str) ++ Txt.mul "\nwrite 0 1" 40) := (TxL.by (n := 14) (by decide +kernel)).app c5
  have o4 := o1.len
  have o5 := c5.len
  obtain ⟨r1, r2⟩ := rr o2 (by decide)
  obtain ⟨r3, r4⟩ := rr o3 (by decide)
  refine ⟨_, _, rfl, rfl, by decide +kernel, by decide, by decide, ?_⟩
  exact ⟨_, rfl, _, _, rfl, rfl, sz (by omega), _, _, rfl, rfl, sz (by omega), .inl ⟨_, rfl, r1, r2, fun B1 u1 => ⟨_, rfl, iteT ⟨_, rfl, _, _, rfl, rfl, sz (by omega), .inl ⟨_, rfl, r3, r4, fun B2 u2 => k B2⟩⟩⟩⟩⟩
end
end Af

set_option Elab.async false
set_option linter.all false
set_option maxRecDepth 100000
namespace Af
open PySem PySem.Spec PyProof.Rows PySem.Calls L2
/-! an own exception class with an __init__ of its own, over ValueError: what the written part says of it, as a question -/
def oexB (K : PySem.W.Frag) (C : Addr) : Bool := match K.lookup C with
  | some ⟨.type "type", _, .cls cd, sl⟩ => (match cd.mro, sl.toList with
    | .ref D :: bm, [_, _, _, _, some (.builtin n), _] => D == C && (n == "ValueError.__new__" && (!cd.hasDel && (cd.hasDict && PySem.HandSPX.refsVE bm)))
    | _, _ => false)
  | _ => false
theorem oex_of {K : PySem.W.Frag} {C : Addr} (h : oexB K C = true) (sa : PySem.W.findIn K (.ref C) "__setattr__" = some (some (.builtin "object.__setattr__"))) (b : PySem.W.subIn K (.ref C) (.type "BaseException") = some true)
    (t : PySem.W.typeIn K (.ref C) = some (.type "type")) (k : PySem.W.keepIn K (.ref C) = true) : OexC K C := by
  refine ⟨?_, sa, b, t, k⟩
  unfold oexB at h
  split at h
  · rename_i dd cd sl e
    split at h
    · rename_i D bm x0 x1 x2 x3 n x5 em es
      simp only [Bool.and_eq_true, beq_iff_eq, Bool.not_eq_true'] at h
      obtain ⟨rfl, rfl, h3, h4, h5⟩ := h
      obtain ⟨nm, bs, mro, ns, qn, hd, sn, sb, ab, col, del⟩ := cd
      dsimp only at em h3 h4
      subst em h3 h4
      obtain ⟨sl⟩ := sl
      dsimp only at es
      subst es
      exact ⟨nm, qn, ns, bs, bm, sn, sb, ab, col, dd, x0, x1, x2, x3, x5, e, h5⟩
    · cases h
  · cases h
theorem FnOk.or {P : Program} {w : World} {K : PySem.W.Frag} {mg : Str → Option Value} {base : Heap} {CX : CXT} {k : Nat} {f : Addr} {fd : FuncData} {ps : List Str} {sp sp' : Sp} (F : FnOk P w K mg base CX k f fd ps sp) (G : FnOk P w K mg base CX k f fd ps sp') :
    FnOk P w K mg base CX k f fd ps (fun vs H Q E => sp vs H Q E ∨ sp' vs H Q E) :=
  ⟨fun vs H Q E q => q.elim (F.len _ _ _ _) (G.len _ _ _ _), fun A outer s H args us vs Q E hr he hb hv hs => hs.elim (F.run A outer s H args us vs Q E hr he hb hv) (G.run A outer s H args us vs Q E hr he hb hv)⟩
end Af

set_option Elab.async false
set_option linter.all false
set_option maxRecDepth 100000
set_option maxHeartbeats 4000000
namespace Af
open PySem L2
def tyV : Value → Bool
  | .type _ => true
  | _ => false
theorem mro_ty : ∀ n ∈ tyNames, (fastBuiltinMro n).elim false (·.all tyV) = true := by decide +kernel
theorem sub_ty {K : PySem.W.Frag} {C : Addr} {n : String} (h : n ∈ tyNames) : PySem.W.subIn K (.type n) (.ref C) = some false := by
  have q := mro_ty n h
  show (fastBuiltinMro n).map (·.contains (.ref C)) = some false
  cases e : fastBuiltinMro n with
  | none =>
    rw [e] at q
    cases q
  | some l =>
    rw [e] at q
    show some (l.contains (.ref C)) = some false
    congr 1
    refine Bool.eq_false_iff.mpr fun z => ?_
    have m : Value.ref C ∈ l := by simpa using z
    have := List.all_eq_true.mp q _ m
    cases this
theorem is_own {K : PySem.W.Frag} {t : Value} : PySem.W.kitOne K t t = some true := by
  unfold PySem.W.kitOne
  rw [if_pos (by simp)]
theorem is_no {K : PySem.W.Frag} {C D : Addr} (ic : PySem.W.isClsIn K D = true) (tc : PySem.W.typeIn K (.ref D) = some (.type "type")) (s : PySem.W.subIn K (.ref C) (.ref D) = some false) (n : (Value.ref C == Value.ref D) = false) : PySem.W.kitOne K (.ref C) (.ref D) = some false := by
  unfold PySem.W.kitOne
  rw [if_neg (by rw [n]; decide)]
  show (if ((PySem.W.clsIn K D).isSome && PySem.W.typeIn K (.ref D) == some (.type "type")) = true then PySem.W.subIn K (.ref C) (.ref D) else none) = some false
  rw [if_pos (by rw [tc, show (PySem.W.clsIn K D).isSome = true from ic]; simp)]
  exact s
theorem is_val {K : PySem.W.Frag} {C : Addr} (s : PySem.W.subIn K (.ref C) (.type "ValueError") = some true) : PySem.W.kitOne K (.ref C) (.type "ValueError") = some true := by
  unfold PySem.W.kitOne
  rw [if_neg (by simp)]
  show (if PySem.W.kitMeta "ValueError" = true then PySem.W.subIn K (.ref C) (.type "ValueError") else none) = _
  rw [if_pos (by decide +kernel)]
  exact s
theorem any_no {K : PySem.W.Frag} {C : Value} {D : Value} {l : List Value} (h : PySem.W.kitOne K C D = some false) (t : PySem.W.kitAny K C l = some false) : PySem.W.kitAny K C (D :: l) = some false :=
  kitAny_cons h (fun _ => t) (fun z => by cases z)
theorem first_not {K : PySem.W.Frag} {C : Addr} {n : String} (h : n ∈ tyNames) : PySem.W.notFirst K C (.type n) = true := by
  unfold PySem.W.notFirst
  rw [sub_ty h]
  simp
theorem is_not {K : PySem.W.Frag} {C : Addr} {n : String} (h : n ∈ tyNames) (ic : PySem.W.isClsIn K C = true) (tc : PySem.W.typeIn K (.ref C) = some (.type "type")) : PySem.W.kitOne K (.type n) (.ref C) = some false := by
  unfold PySem.W.kitOne
  rw [if_neg (by simp)]
  show (if ((PySem.W.clsIn K C).isSome && PySem.W.typeIn K (.ref C) == some (.type "type")) = true then PySem.W.subIn K (.type n) (.ref C) else none) = some false
  rw [if_pos (by rw [tc, show (PySem.W.clsIn K C).isSome = true from ic]; simp)]
  exact sub_ty h
theorem all_mk {l : PySem.W.OpenLaw} {w : World} {K : PySem.W.Frag} {h : Heap} {mg : Str → Option Value} {fa C : Addr} (X : K.In h) (G : h.Ns mainGlobals mg) (hfa : mg "law" = some (.ref fa))
    {f1 : Addr} {od1 an1 : Option Addr} {sl1 : Array (Option Value)} {oc1 kV1 dc1 pm1 cd1 ct1 : Value}
    {f2 : Addr} {od2 an2 : Option Addr} {sl2 : Array (Option Value)} {oc2 kV2 dc2 pm2 cd2 ct2 : Value}
    {f3 : Addr} {od3 an3 : Option Addr} {sl3 : Array (Option Value)} {oc3 kV3 dc3 pm3 cd3 ct3 : Value}
    {f4 : Addr} {od4 an4 : Option Addr} {sl4 : Array (Option Value)} {oc4 kV4 dc4 pm4 cd4 ct4 : Value}
    {f5 : Addr} {od5 an5 : Option Addr} {sl5 : Array (Option Value)} {oc5 kV5 dc5 pm5 cd5 ct5 : Value}
    {f6 : Addr} {od6 an6 : Option Addr} {sl6 : Array (Option Value)} {oc6 kV6 dc6 pm6 cd6 ct6 : Value}
    {f7 : Addr} {od7 an7 : Option Addr} {sl7 : Array (Option Value)} {oc7 kV7 dc7 pm7 cd7 ct7 : Value}
    {f8 : Addr} {od8 an8 : Option Addr} {sl8 : Array (Option Value)} {oc8 kV8 dc8 pm8 cd8 ct8 : Value}
    {f9 : Addr} {od9 an9 : Option Addr} {sl9 : Array (Option Value)} {oc9 kV9 dc9 pm9 cd9 ct9 : Value}
    {f10 : Addr} {od10 an10 : Option Addr} {sl10 : Array (Option Value)} {oc10 kV10 dc10 pm10 cd10 ct10 : Value}
    {f11 : Addr} {od11 an11 : Option Addr} {sl11 : Array (Option Value)} {oc11 kV11 dc11 pm11 cd11 ct11 : Value}
    {f12 : Addr} {od12 an12 : Option Addr} {sl12 : Array (Option Value)} {oc12 kV12 dc12 pm12 cd12 ct12 : Value}
    {f13 : Addr} {od13 an13 : Option Addr} {sl13 : Array (Option Value)} {oc13 kV13 dc13 pm13 cd13 ct13 : Value}
    {f14 : Addr} {od14 an14 : Option Addr} {sl14 : Array (Option Value)} {oc14 kV14 dc14 pm14 cd14 ct14 : Value}
    {f15 : Addr} {od15 an15 : Option Addr} {sl15 : Array (Option Value)} {oc15 kV15 dc15 pm15 cd15 ct15 : Value}
    {f16 : Addr} {od16 an16 : Option Addr} {sl16 : Array (Option Value)} {oc16 kV16 dc16 pm16 cd16 ct16 : Value}
    {f17 : Addr} {od17 an17 : Option Addr} {sl17 : Array (Option Value)} {oc17 kV17 dc17 pm17 cd17 ct17 : Value}
    {f18 : Addr} {od18 an18 : Option Addr} {sl18 : Array (Option Value)} {oc18 kV18 dc18 pm18 cd18 ct18 : Value}
    {f19 : Addr} {od19 an19 : Option Addr} {sl19 : Array (Option Value)} {oc19 kV19 dc19 pm19 cd19 ct19 : Value}
    {f20 : Addr} {od20 an20 : Option Addr} {sl20 : Array (Option Value)} {oc20 kV20 dc20 pm20 cd20 ct20 : Value}
    {f21 : Addr} {od21 an21 : Option Addr} {sl21 : Array (Option Value)} {oc21 kV21 dc21 pm21 cd21 ct21 : Value}
    {f22 : Addr} {od22 an22 : Option Addr} {sl22 : Array (Option Value)} {oc22 kV22 dc22 pm22 cd22 ct22 : Value}
    {f23 : Addr} {od23 an23 : Option Addr} {sl23 : Array (Option Value)} {oc23 kV23 dc23 pm23 cd23 ct23 : Value}
    {f24 : Addr} {od24 an24 : Option Addr} {sl24 : Array (Option Value)} {oc24 kV24 dc24 pm24 cd24 ct24 : Value}
    {f25 : Addr} {od25 an25 : Option Addr} {sl25 : Array (Option Value)} {oc25 kV25 dc25 pm25 cd25 ct25 : Value}
    {f26 : Addr} {od26 an26 : Option Addr} {sl26 : Array (Option Value)} {oc26 kV26 dc26 pm26 cd26 ct26 : Value}
    {f27 : Addr} {od27 an27 : Option Addr} {sl27 : Array (Option Value)} {oc27 kV27 dc27 pm27 cd27 ct27 : Value}
    {f28 : Addr} {od28 an28 : Option Addr} {sl28 : Array (Option Value)} {oc28 kV28 dc28 pm28 cd28 ct28 : Value}
    {f29 : Addr} {od29 an29 : Option Addr} {sl29 : Array (Option Value)} {oc29 kV29 dc29 pm29 cd29 ct29 : Value}
    {f30 : Addr} {od30 an30 : Option Addr} {sl30 : Array (Option Value)} {oc30 kV30 dc30 pm30 cd30 ct30 : Value}
    {f31 : Addr} {od31 an31 : Option Addr} {sl31 : Array (Option Value)} {oc31 kV31 dc31 pm31 cd31 ct31 : Value}
    {pp31 : Addr} {pr31 : List Value}
    {f32 : Addr} {od32 an32 : Option Addr} {sl32 : Array (Option Value)} {oc32 kV32 dc32 pm32 cd32 ct32 : Value}
    {pp32 : Addr} {pr32 : List Value}
    {f33 : Addr} {od33 an33 : Option Addr} {sl33 : Array (Option Value)} {oc33 kV33 dc33 pm33 cd33 ct33 : Value}
    {pp33 : Addr} {pr33 : List Value}
    {f34 : Addr} {od34 an34 : Option Addr} {sl34 : Array (Option Value)} {oc34 kV34 dc34 pm34 cd34 ct34 : Value}
    {pp34 : Addr} {pr34 : List Value}
    {f35 : Addr} {od35 an35 : Option Addr} {sl35 : Array (Option Value)} {oc35 kV35 dc35 pm35 cd35 ct35 : Value}
    {pp35 : Addr} {pr35 : List Value}
    {CP CF fP ccP cdP : Addr} {odP anP cldP cddP : Option Addr} {slP cslP ccsP : Array (Option Value)} {vsP : Array Value} {ocP kVP dcP pmP ctP clP coP : Value} {fileP : Str} {tkP : Tok}
    {tk0 : Nat}
    {tk1 : Nat}
    {tk2 : Nat}
    {tkfigP : Nat}
    {tkmostP : Nat}
    {ta0 : Addr} {td0 : Option Addr} {ti0 : Array Value} {tn0 : Nat} {ts0 : Array (Option Value)}
    (a1 : PySem.W.nsIn K mainGlobals "is_integer" = some (some (.ref f1))) (l1 : K.lookup f1 = some ⟨oc1, od1, .func (PySem.W.fnOf "is_integer" "is_integer" (defArgs s_is_integer) (defBody s_is_integer) (defScope s_is_integer) .none kV1 dc1 pm1 an1 cd1 ct1), sl1⟩) (c1 : PySem.W.codeIn K cd1 "is_integer" = true) (k1 : PySem.W.keepIn K (.ref f1) = true)
    (a2 : PySem.W.nsIn K mainGlobals "is_index" = some (some (.ref f2))) (l2 : K.lookup f2 = some ⟨oc2, od2, .func (PySem.W.fnOf "is_index" "is_index" (defArgs s_is_index) (defBody s_is_index) (defScope s_is_index) .none kV2 dc2 pm2 an2 cd2 ct2), sl2⟩) (c2 : PySem.W.codeIn K cd2 "is_index" = true) (k2 : PySem.W.keepIn K (.ref f2) = true)
    (a3 : PySem.W.nsIn K mainGlobals "is_width" = some (some (.ref f3))) (l3 : K.lookup f3 = some ⟨oc3, od3, .func (PySem.W.fnOf "is_width" "is_width" (defArgs s_is_width) (defBody s_is_width) (defScope s_is_width) .none kV3 dc3 pm3 an3 cd3 ct3), sl3⟩) (c3 : PySem.W.codeIn K cd3 "is_width" = true) (k3 : PySem.W.keepIn K (.ref f3) = true)
    (a4 : PySem.W.nsIn K mainGlobals "are_worths" = some (some (.ref f4))) (l4 : K.lookup f4 = some ⟨oc4, od4, .func (PySem.W.fnOf "are_worths" "are_worths" (defArgs s_are_worths) (defBody s_are_worths) (defScope s_are_worths) .none kV4 dc4 pm4 an4 cd4 ct4), sl4⟩) (c4 : PySem.W.codeIn K cd4 "are_worths" = true) (k4 : PySem.W.keepIn K (.ref f4) = true)
    (a5 : PySem.W.nsIn K mainGlobals "is_content" = some (some (.ref f5))) (l5 : K.lookup f5 = some ⟨oc5, od5, .func (PySem.W.fnOf "is_content" "is_content" (defArgs s_is_content) (defBody s_is_content) (defScope s_is_content) .none kV5 dc5 pm5 an5 cd5 ct5), sl5⟩) (c5 : PySem.W.codeIn K cd5 "is_content" = true) (k5 : PySem.W.keepIn K (.ref f5) = true)
    (a6 : PySem.W.nsIn K mainGlobals "is_step" = some (some (.ref f6))) (l6 : K.lookup f6 = some ⟨oc6, od6, .func (PySem.W.fnOf "is_step" "is_step" (defArgs s_is_step) (defBody s_is_step) (defScope s_is_step) .none kV6 dc6 pm6 an6 cd6 ct6), sl6⟩) (c6 : PySem.W.codeIn K cd6 "is_step" = true) (k6 : PySem.W.keepIn K (.ref f6) = true)
    (a7 : PySem.W.nsIn K mainGlobals "_broken" = some (some (.ref f7))) (l7 : K.lookup f7 = some ⟨oc7, od7, .func (PySem.W.fnOf "_broken" "_broken" (defArgs s_broken) (defBody s_broken) (defScope s_broken) .none kV7 dc7 pm7 an7 cd7 ct7), sl7⟩) (c7 : PySem.W.codeIn K cd7 "_broken" = true) (k7 : PySem.W.keepIn K (.ref f7) = true)
    (a8 : PySem.W.nsIn K mainGlobals "_pieces_of" = some (some (.ref f8))) (l8 : K.lookup f8 = some ⟨oc8, od8, .func (PySem.W.fnOf "_pieces_of" "_pieces_of" (defArgs s_pieces_of) (defBody s_pieces_of) (defScope s_pieces_of) .none kV8 dc8 pm8 an8 cd8 ct8), sl8⟩) (c8 : PySem.W.codeIn K cd8 "_pieces_of" = true) (k8 : PySem.W.keepIn K (.ref f8) = true)
    (a9 : PySem.W.nsIn K mainGlobals "is_room" = some (some (.ref f9))) (l9 : K.lookup f9 = some ⟨oc9, od9, .func (PySem.W.fnOf "is_room" "is_room" (defArgs s_is_room) (defBody s_is_room) (defScope s_is_room) .none kV9 dc9 pm9 an9 cd9 ct9), sl9⟩) (c9 : PySem.W.codeIn K cd9 "is_room" = true) (k9 : PySem.W.keepIn K (.ref f9) = true)
    (a10 : PySem.W.nsIn K mainGlobals "are_steps" = some (some (.ref f10))) (l10 : K.lookup f10 = some ⟨oc10, od10, .func (PySem.W.fnOf "are_steps" "are_steps" (defArgs s_are_steps) (defBody s_are_steps) (defScope s_are_steps) .none kV10 dc10 pm10 an10 cd10 ct10), sl10⟩) (c10 : PySem.W.codeIn K cd10 "are_steps" = true) (k10 : PySem.W.keepIn K (.ref f10) = true)
    (a11 : PySem.W.nsIn K mainGlobals "_epochs_of" = some (some (.ref f11))) (l11 : K.lookup f11 = some ⟨oc11, od11, .func (PySem.W.fnOf "_epochs_of" "_epochs_of" (defArgs s_epochs_of) (defBody s_epochs_of) (defScope s_epochs_of) .none kV11 dc11 pm11 an11 cd11 ct11), sl11⟩) (c11 : PySem.W.codeIn K cd11 "_epochs_of" = true) (k11 : PySem.W.keepIn K (.ref f11) = true)
    (a12 : PySem.W.nsIn K mainGlobals "number_in" = some (some (.ref f12))) (l12 : K.lookup f12 = some ⟨oc12, od12, .func (PySem.W.fnOf "number_in" "number_in" (defArgs s_number_in) (defBody s_number_in) (defScope s_number_in) .none kV12 dc12 pm12 an12 cd12 ct12), sl12⟩) (c12 : PySem.W.codeIn K cd12 "number_in" = true) (k12 : PySem.W.keepIn K (.ref f12) = true)
    (a13 : PySem.W.nsIn K mainGlobals "_numbers_behind" = some (some (.ref f13))) (l13 : K.lookup f13 = some ⟨oc13, od13, .func (PySem.W.fnOf "_numbers_behind" "_numbers_behind" (defArgs s_numbers_behind) (defBody s_numbers_behind) (defScope s_numbers_behind) .none kV13 dc13 pm13 an13 cd13 ct13), sl13⟩) (c13 : PySem.W.codeIn K cd13 "_numbers_behind" = true) (k13 : PySem.W.keepIn K (.ref f13) = true)
    (a14 : PySem.W.nsIn K mainGlobals "_width_in" = some (some (.ref f14))) (l14 : K.lookup f14 = some ⟨oc14, od14, .func (PySem.W.fnOf "_width_in" "_width_in" (defArgs s_width_in) (defBody s_width_in) (defScope s_width_in) .none kV14 dc14 pm14 an14 cd14 ct14), sl14⟩) (c14 : PySem.W.codeIn K cd14 "_width_in" = true) (k14 : PySem.W.keepIn K (.ref f14) = true)
    (a15 : PySem.W.nsIn K mainGlobals "_step_in" = some (some (.ref f15))) (l15 : K.lookup f15 = some ⟨oc15, od15, .func (PySem.W.fnOf "_step_in" "_step_in" (defArgs s_step_in) (defBody s_step_in) (defScope s_step_in) .none kV15 dc15 pm15 an15 cd15 ct15), sl15⟩) (c15 : PySem.W.codeIn K cd15 "_step_in" = true) (k15 : PySem.W.keepIn K (.ref f15) = true)
    (a16 : PySem.W.nsIn K mainGlobals "_steps_in" = some (some (.ref f16))) (l16 : K.lookup f16 = some ⟨oc16, od16, .func (PySem.W.fnOf "_steps_in" "_steps_in" (defArgs s_steps_in) (defBody s_steps_in) (defScope s_steps_in) .none kV16 dc16 pm16 an16 cd16 ct16), sl16⟩) (c16 : PySem.W.codeIn K cd16 "_steps_in" = true) (k16 : PySem.W.keepIn K (.ref f16) = true)
    (a17 : PySem.W.nsIn K mainGlobals "parse_plan" = some (some (.ref f17))) (l17 : K.lookup f17 = some ⟨oc17, od17, .func (PySem.W.fnOf "parse_plan" "parse_plan" (defArgs s_parse_plan) (defBody s_parse_plan) (defScope s_parse_plan) .none kV17 dc17 pm17 an17 cd17 ct17), sl17⟩) (c17 : PySem.W.codeIn K cd17 "parse_plan" = true) (k17 : PySem.W.keepIn K (.ref f17) = true)
    (a18 : PySem.W.nsIn K mainGlobals "_law_split" = some (some (.ref f18))) (l18 : K.lookup f18 = some ⟨oc18, od18, .func (PySem.W.fnOf "_law_split" "_law_split" (defArgs s_l_split) (defBody s_l_split) (defScope s_l_split) .none kV18 dc18 pm18 an18 cd18 ct18), sl18⟩) (c18 : PySem.W.codeIn K cd18 "_law_split" = true) (k18 : PySem.W.keepIn K (.ref f18) = true)
    (a19 : PySem.W.nsIn K mainGlobals "_law_parts" = some (some (.ref f19))) (l19 : K.lookup f19 = some ⟨oc19, od19, .func (PySem.W.fnOf "_law_parts" "_law_parts" (defArgs s_l_parts) (defBody s_l_parts) (defScope s_l_parts) .none kV19 dc19 pm19 an19 cd19 ct19), sl19⟩) (c19 : PySem.W.codeIn K cd19 "_law_parts" = true) (k19 : PySem.W.keepIn K (.ref f19) = true)
    (a20 : PySem.W.nsIn K mainGlobals "_law_plan_of" = some (some (.ref f20))) (l20 : K.lookup f20 = some ⟨oc20, od20, .func (PySem.W.fnOf "_law_plan_of" "_law_plan_of" (defArgs s_l_plan_of) (defBody s_l_plan_of) (defScope s_l_plan_of) .none kV20 dc20 pm20 an20 cd20 ct20), sl20⟩) (c20 : PySem.W.codeIn K cd20 "_law_plan_of" = true) (k20 : PySem.W.keepIn K (.ref f20) = true)
    (a21 : PySem.W.nsIn K mainGlobals "_law_figures" = some (some (.ref f21))) (l21 : K.lookup f21 = some ⟨oc21, od21, .func (PySem.W.fnOf "_law_figures" "_law_figures" (defArgs s_l_figures) (defBody s_l_figures) (defScope s_l_figures) .none kV21 dc21 pm21 an21 cd21 ct21), sl21⟩) (c21 : PySem.W.codeIn K cd21 "_law_figures" = true) (k21 : PySem.W.keepIn K (.ref f21) = true)
    (a22 : PySem.W.nsIn K mainGlobals "_law_row_of" = some (some (.ref f22))) (l22 : K.lookup f22 = some ⟨oc22, od22, .func (PySem.W.fnOf "_law_row_of" "_law_row_of" (defArgs s_l_row_of) (defBody s_l_row_of) (defScope s_l_row_of) .none kV22 dc22 pm22 an22 cd22 ct22), sl22⟩) (c22 : PySem.W.codeIn K cd22 "_law_row_of" = true) (k22 : PySem.W.keepIn K (.ref f22) = true)
    (a23 : PySem.W.nsIn K mainGlobals "_law_read" = some (some (.ref f23))) (l23 : K.lookup f23 = some ⟨oc23, od23, .func (PySem.W.fnOf "_law_read" "_law_read" (defArgs s_l_read) (defBody s_l_read) (defScope s_l_read) .none kV23 dc23 pm23 an23 cd23 ct23), sl23⟩) (c23 : PySem.W.codeIn K cd23 "_law_read" = true) (k23 : PySem.W.keepIn K (.ref f23) = true)
    (a24 : PySem.W.nsIn K mainGlobals "_law_parsed" = some (some (.ref f24))) (l24 : K.lookup f24 = some ⟨oc24, od24, .func (PySem.W.fnOf "_law_parsed" "_law_parsed" (defArgs s_l_parsed) (defBody s_l_parsed) (defScope s_l_parsed) .none kV24 dc24 pm24 an24 cd24 ct24), sl24⟩) (c24 : PySem.W.codeIn K cd24 "_law_parsed" = true) (k24 : PySem.W.keepIn K (.ref f24) = true)
    (a25 : PySem.W.nsIn K mainGlobals "_law_read_right" = some (some (.ref f25))) (l25 : K.lookup f25 = some ⟨oc25, od25, .func (PySem.W.fnOf "_law_read_right" "_law_read_right" (defArgs s_l_read_right) (defBody s_l_read_right) (defScope s_l_read_right) .none kV25 dc25 pm25 an25 cd25 ct25), sl25⟩) (c25 : PySem.W.codeIn K cd25 "_law_read_right" = true) (k25 : PySem.W.keepIn K (.ref f25) = true)
    (a26 : PySem.W.nsIn K mainGlobals "_law_heads" = some (some (.ref f26))) (l26 : K.lookup f26 = some ⟨oc26, od26, .func (PySem.W.fnOf "_law_heads" "_law_heads" (defArgs s_l_heads) (defBody s_l_heads) (defScope s_l_heads) .none kV26 dc26 pm26 an26 cd26 ct26), sl26⟩) (c26 : PySem.W.codeIn K cd26 "_law_heads" = true) (k26 : PySem.W.keepIn K (.ref f26) = true)
    (a27 : PySem.W.nsIn K mainGlobals "_law_tails" = some (some (.ref f27))) (l27 : K.lookup f27 = some ⟨oc27, od27, .func (PySem.W.fnOf "_law_tails" "_law_tails" (defArgs s_l_tails) (defBody s_l_tails) (defScope s_l_tails) .none kV27 dc27 pm27 an27 cd27 ct27), sl27⟩) (c27 : PySem.W.codeIn K cd27 "_law_tails" = true) (k27 : PySem.W.keepIn K (.ref f27) = true)
    (a28 : PySem.W.nsIn K mainGlobals "law" = some (some (.ref f28))) (l28 : K.lookup f28 = some ⟨oc28, od28, .func (PySem.W.fnOf "law" "law" (defArgs s_law) (defBody s_law) (defScope s_law) .none kV28 dc28 pm28 an28 cd28 ct28), sl28⟩) (c28 : PySem.W.codeIn K cd28 "law" = true) (k28 : PySem.W.keepIn K (.ref f28) = true)
    (aC : PySem.W.nsIn K mainGlobals "Plan" = some (some (.ref C)))
    (a29 : PySem.W.findIn K (.ref C) "__init__" = some (some (.ref f29))) (i29 : PySem.W.isFn K (.ref f29) = true) (l29 : K.lookup f29 = some ⟨oc29, od29, .func (PySem.W.fnOf "__init__" "Plan.__init__" (defArgs s_Plan___init) (defBody s_Plan___init) (defScope s_Plan___init) .none kV29 dc29 pm29 an29 cd29 ct29), sl29⟩) (c29 : PySem.W.codeIn K cd29 "Plan.__init__" = true) (k29 : PySem.W.keepIn K (.ref f29) = true)
    (a30 : PySem.W.findIn K (.ref C) "__eq__" = some (some (.ref f30))) (i30 : PySem.W.isFn K (.ref f30) = true) (l30 : K.lookup f30 = some ⟨oc30, od30, .func (PySem.W.fnOf "__eq__" "Plan.__eq__" (defArgs s_Plan___eq) (defBody s_Plan___eq) (defScope s_Plan___eq) .none kV30 dc30 pm30 an30 cd30 ct30), sl30⟩) (c30 : PySem.W.codeIn K cd30 "Plan.__eq__" = true) (k30 : PySem.W.keepIn K (.ref f30) = true)
    (a31 : PySem.W.findIn K (.ref C) "base" = some (some (.ref pp31))) (i31 : PySem.W.specialIn K (.ref pp31) "__get__" = some (some (.builtin "property.__get__"))) (j31 : PySem.W.takesIn K (.ref pp31) = some true) (r31 : PySem.W.recIn K pp31 "property" = some (.ref f31 :: pr31)) (l31 : K.lookup f31 = some ⟨oc31, od31, .func (PySem.W.fnOf "base" "Plan.base" (defArgs s_Plan_base) (defBody s_Plan_base) (defScope s_Plan_base) .none kV31 dc31 pm31 an31 cd31 ct31), sl31⟩) (c31 : PySem.W.codeIn K cd31 "Plan.base" = true) (k31 : PySem.W.keepIn K (.ref f31) = true)
    (a32 : PySem.W.findIn K (.ref C) "width" = some (some (.ref pp32))) (i32 : PySem.W.specialIn K (.ref pp32) "__get__" = some (some (.builtin "property.__get__"))) (j32 : PySem.W.takesIn K (.ref pp32) = some true) (r32 : PySem.W.recIn K pp32 "property" = some (.ref f32 :: pr32)) (l32 : K.lookup f32 = some ⟨oc32, od32, .func (PySem.W.fnOf "width" "Plan.width" (defArgs s_Plan_width) (defBody s_Plan_width) (defScope s_Plan_width) .none kV32 dc32 pm32 an32 cd32 ct32), sl32⟩) (c32 : PySem.W.codeIn K cd32 "Plan.width" = true) (k32 : PySem.W.keepIn K (.ref f32) = true)
    (a33 : PySem.W.findIn K (.ref C) "steps" = some (some (.ref pp33))) (i33 : PySem.W.specialIn K (.ref pp33) "__get__" = some (some (.builtin "property.__get__"))) (j33 : PySem.W.takesIn K (.ref pp33) = some true) (r33 : PySem.W.recIn K pp33 "property" = some (.ref f33 :: pr33)) (l33 : K.lookup f33 = some ⟨oc33, od33, .func (PySem.W.fnOf "steps" "Plan.steps" (defArgs s_Plan_steps) (defBody s_Plan_steps) (defScope s_Plan_steps) .none kV33 dc33 pm33 an33 cd33 ct33), sl33⟩) (c33 : PySem.W.codeIn K cd33 "Plan.steps" = true) (k33 : PySem.W.keepIn K (.ref f33) = true)
    (a34 : PySem.W.findIn K (.ref C) "pieces" = some (some (.ref pp34))) (i34 : PySem.W.specialIn K (.ref pp34) "__get__" = some (some (.builtin "property.__get__"))) (j34 : PySem.W.takesIn K (.ref pp34) = some true) (r34 : PySem.W.recIn K pp34 "property" = some (.ref f34 :: pr34)) (l34 : K.lookup f34 = some ⟨oc34, od34, .func (PySem.W.fnOf "pieces" "Plan.pieces" (defArgs s_Plan_pieces) (defBody s_Plan_pieces) (defScope s_Plan_pieces) .none kV34 dc34 pm34 an34 cd34 ct34), sl34⟩) (c34 : PySem.W.codeIn K cd34 "Plan.pieces" = true) (k34 : PySem.W.keepIn K (.ref f34) = true)
    (a35 : PySem.W.findIn K (.ref C) "epochs" = some (some (.ref pp35))) (i35 : PySem.W.specialIn K (.ref pp35) "__get__" = some (some (.builtin "property.__get__"))) (j35 : PySem.W.takesIn K (.ref pp35) = some true) (r35 : PySem.W.recIn K pp35 "property" = some (.ref f35 :: pr35)) (l35 : K.lookup f35 = some ⟨oc35, od35, .func (PySem.W.fnOf "epochs" "Plan.epochs" (defArgs s_Plan_epochs) (defBody s_Plan_epochs) (defScope s_Plan_epochs) .none kV35 dc35 pm35 an35 cd35 ct35), sl35⟩) (c35 : PySem.W.codeIn K cd35 "Plan.epochs" = true) (k35 : PySem.W.keepIn K (.ref f35) = true)
    (pg : PySem.W.plainGet K C Str.empty = true) (hd : PySem.W.hasDictIn K C = true) (po : PySem.W.plainOver K C = true) (sa : PySem.W.findIn K (.ref C) "__setattr__" = some (some (.builtin "object.__setattr__"))) (mk : PySem.W.makesIn K C = true) (kc : PySem.W.keepIn K (.ref C) = true)
    (ic : PySem.W.isClsIn K C = true) (tc : PySem.W.typeIn K (.ref C) = some (.type "type")) (ha : PySem.W.findIn K (.ref C) "__class__" = some (some (.builtin "object.__class__"))) (hn : PySem.W.specialIn K (.builtin "object.__class__") "__get__" = some (some (.builtin "getset_descriptor.__get__"))) (htk : PySem.W.takesIn K (.builtin "object.__class__") = some true) (hm : PySem.W.mroIn K C (.type "object") = some true)
    (hne : PySem.W.findIn K (.ref C) "__ne__" = some (some (.builtin "object.__ne__")))
    (n0 : PySem.W.findIn K (.ref C) "_base" = some none)
    (n1 : PySem.W.findIn K (.ref C) "_width" = some none)
    (n2 : PySem.W.findIn K (.ref C) "_steps" = some none)
    (n3 : PySem.W.findIn K (.ref C) "_pieces" = some none)
    (n4 : PySem.W.findIn K (.ref C) "_piece_epochs" = some none)
    (n5 : PySem.W.findIn K (.ref C) "_epochs" = some none)
    (gCF : PySem.W.nsIn K mainGlobals "FallError" = some (some (.ref CF)))
    (gCP : PySem.W.nsIn K mainGlobals "ParseError" = some (some (.ref CP)))
    (yb : PySem.W.subIn K (.ref CF) (.type "BaseException") = some true)
    (yd : PySem.W.hasDictIn K CF = true)
    (yt : PySem.W.typeIn K (.ref CF) = some (.type "type"))
    (yeP : PySem.W.subIn K (.ref CP) (.ref CF) = some true)
    (oxP : oexB K CP = true)
    (saP : PySem.W.findIn K (.ref CP) "__setattr__" = some (some (.builtin "object.__setattr__")))
    (bP : PySem.W.subIn K (.ref CP) (.type "BaseException") = some true)
    (tP : PySem.W.typeIn K (.ref CP) = some (.type "type"))
    (kP : PySem.W.keepIn K (.ref CP) = true)
    (c1P : PySem.W.isClsIn K CP = true)
    (iP : PySem.W.findIn K (.ref CP) "__init__" = some (some (.ref fP)))
    (tfP : PySem.W.typeIn K (.ref fP) = some (.type "function"))
    (lP : K.lookup fP = some ⟨ocP, odP, .func (PySem.W.fnX "__init__" "ParseError.__init__" (defArgs s_ParseError___init) (defBody s_ParseError___init) (defScope s_ParseError___init) [("__class__", ccP)] .none kVP dcP pmP anP (.ref cdP) ctP), slP⟩)
    (cP : PySem.W.codeIn K (.ref cdP) "ParseError.__init__" = true)
    (clP : K.lookup ccP = some ⟨clP, cldP, .cell (some (.ref CP)), cslP⟩)
    (coP : K.lookup cdP = some ⟨coP, cddP, .fields vsP, ccsP⟩)
    (vP : vsP[2]? = some (.str fileP tkP))
    (mfP : ((l.prog.main.file : Str) == fileP) = true)
    (topP : (l.prog.main.scope.names.lookup ("super" : Str)).isSome = false)
    (suP : PySem.W.nsIn K mainGlobals "super" = some none)
    (opP : PySem.W.nsIn K cStatics "thirdparty.any" = some none)
    (inP : PySem.W.ks_superIn K CP CP "__init__" = some (some (.builtin "ValueError.__init__")))
    (veP : PySem.W.subIn K (.ref CP) (.type "ValueError") = some true)
    (noP : PySem.W.findIn K (.ref CP) "line" = some none)
    (gaP : PySem.W.findIn K (.ref CP) "__getattribute__" = some (some (.builtin "BaseException.__getattribute__")))
    (gtP : PySem.W.findIn K (.ref CP) "__getattr__" = some none)
    (hdP : PySem.W.hasDictIn K CP = true)
    (haP : PySem.W.findIn K (.ref CP) "__class__" = some (some (.builtin "object.__class__")))
    (hmP : PySem.W.mroIn K CP (.type "object") = some true)
    (zr : PySem.W.nsIn K mainGlobals "repr" = some none)
    (z0 : PySem.W.nsIn K mainGlobals "len" = some none)
    (z1 : PySem.W.nsIn K mainGlobals "int" = some none)
    (z2 : PySem.W.nsIn K mainGlobals "list" = some none)
    (z3 : PySem.W.nsIn K mainGlobals "tuple" = some none)
    (z4 : PySem.W.nsIn K mainGlobals "range" = some none)
    (z5 : PySem.W.nsIn K mainGlobals "min" = some none)
    (z6 : PySem.W.nsIn K mainGlobals "all" = some none)
    (z7 : PySem.W.nsIn K mainGlobals "enumerate" = some none)
    (z8 : PySem.W.nsIn K mainGlobals "zip" = some none)
    (z9 : PySem.W.nsIn K mainGlobals "isinstance" = some none)
    (z10 : PySem.W.nsIn K mainGlobals "bool" = some none)
    (ValueError : PySem.W.nsIn K mainGlobals "ValueError" = some none)
    (str : PySem.W.nsIn K mainGlobals "str" = some none)
    (m0 : PySem.W.nsIn K mainGlobals "MOST_CELLS" = some (some (.int 24 tk0)))
    (m1 : PySem.W.nsIn K mainGlobals "MOST_STEPS" = some (some (.int 40 tk1)))
    (m2 : PySem.W.nsIn K mainGlobals "MOST_PIECES" = some (some (.int 40 tk2)))
    (figP : PySem.W.nsIn K mainGlobals "FIGURES" = some (some (.str "0123456789" tkfigP)))
    (mostP : PySem.W.nsIn K mainGlobals "MOST_FIGURES" = some (some (.int 2 tkmostP)))
    (u0 : PySem.W.nsIn K mainGlobals "ALL_WORTHS" = some (some (.ref ta0))) (w0 : K.lookup ta0 = some ⟨.type "tuple", td0, .seq ti0 tn0, ts0⟩) (x0 : ti0.size ≤ sizeLine) (y0 : Vals (ivs [0, 1, 2, 3, 4, 5, 6, 7]) ti0.toList) :
    ∃ fd : FuncData, (∀ (s : Shared) (v : Value), BindsTo s fd ⟨[v], []⟩ [("_law_script", v)]) ∧ ∀ base : Heap, K.In base → base.Ns mainGlobals mg → FnG l.prog w K mg base 11 fa fd ["_law_script"] (sp_law K) := by
  have e := hfa.symm.trans (PySem.W.mg_of X G a28)
  cases e
  have T : Txt mg := ⟨PySem.W.mg_none_of X G z0, PySem.W.mg_none_of X G z1, PySem.W.mg_none_of X G z2, PySem.W.mg_none_of X G z3, PySem.W.mg_none_of X G z4, PySem.W.mg_none_of X G z5, PySem.W.mg_none_of X G z6, PySem.W.mg_none_of X G z7, PySem.W.mg_none_of X G z8, PySem.W.mg_none_of X G z9, PySem.W.mg_none_of X G z10⟩
  have CK : Cst K mg := ⟨⟨_, PySem.W.mg_of X G m0⟩, ⟨_, PySem.W.mg_of X G m1⟩, ⟨_, PySem.W.mg_of X G m2⟩, ⟨_, PySem.W.mg_of X G u0, fun H => .inr ⟨_, ti0, tn0, w0, rfl, rfl, x0, y0⟩⟩⟩
  have TC : PlanC K mg C := ⟨⟨pg, hd, po, sa⟩, n0, n1, n2, n3, n4, n5, PySem.W.mg_of X G aC, is_own, fun n hn => is_not hn ic tc, fun n hn => first_not hn, ha, hn, htk, hm⟩
  have F_Plan___init := fun_mk (st := s_Plan___init) l29 c29 k29
  have b_Plan___init := F_Plan___init.binds (ps := ["self", "base", "width", "steps"]) fun _ _ _ _ _ _ us hl => match us, hl with | [_, _, _, _], _ => rfl
  have M_Plan___init : Mk K C f29 := ⟨mk, a29, i29, kc⟩
  have F_Plan___eq := fun_mk (st := s_Plan___eq) l30 c30 k30
  have b_Plan___eq := F_Plan___eq.binds (ps := ["self", "other"]) fun _ _ _ _ _ _ us hl => match us, hl with | [_, _], _ => rfl
  have M_Plan___eq : Meth K C "__eq__" f30 := ⟨a30, i30, k30⟩
  have O : OwnEqC K C f30 := ⟨a30, i30, hne, hm⟩
  have OP : OexC K CP := oex_of oxP saP bP tP kP
  have UP : SupC l.prog K mg CP ccP cdP := ⟨⟨_, _, _, _, _, _, coP, vP, mfP⟩, ⟨_, _, _, clP⟩, topP, PySem.W.mg_none_of X G suP, opP, inP, veP⟩
  have PC : ∀ base, PeC l.prog w K mg base CP := fun base => ⟨OP, ⟨fP, _, iP, tfP, ok_pe_init OP UP noP lP cP, fun _ us _ hl => match us, hl with | [_, _], _ => .of_eq rfl⟩, PySem.W.mg_of X G gCP⟩
  have XP : ErrP K mg CF CP := ⟨PySem.W.mg_of X G gCF, PySem.W.mg_of X G gCP, ⟨gaP, gtP, bP, hdP, haP, hn, htk, hmP⟩, ⟨gaP, gtP, bP, hdP⟩, noP, PySem.W.exm_ref yb yd yt yeP, is_own, is_val veP⟩
  refine ⟨PySem.W.fnOf "law" "law" (defArgs s_law) (defBody s_law) (defScope s_law) .none kV28 dc28 pm28 an28 cd28 ct28, fun s v => .of_eq rfl, fun base _ _ => ?_⟩
  have t_repr := PySem.W.mg_none_of X G zr
  have t_ValueError := PySem.W.mg_none_of X G ValueError
  have t_str := PySem.W.mg_none_of X G str
  have F_Plan_base := fun_mk (st := s_Plan_base) l31 c31 k31
  have P_base : PropC l.prog w K mg base C "base" (sp_p_base C) := ⟨pp31, f31, _, ⟨a31, i31, j31, _, r31⟩, ok_p_base F_Plan_base TC, F_Plan_base.binds (ps := ["self"]) fun _ _ _ _ _ _ us hl => match us, hl with | [_], _ => rfl⟩
  have F_Plan_width := fun_mk (st := s_Plan_width) l32 c32 k32
  have P_width : PropC l.prog w K mg base C "width" (sp_p_width C) := ⟨pp32, f32, _, ⟨a32, i32, j32, _, r32⟩, ok_p_width F_Plan_width TC, F_Plan_width.binds (ps := ["self"]) fun _ _ _ _ _ _ us hl => match us, hl with | [_], _ => rfl⟩
  have F_Plan_steps := fun_mk (st := s_Plan_steps) l33 c33 k33
  have P_steps : PropC l.prog w K mg base C "steps" (sp_p_steps C) := ⟨pp33, f33, _, ⟨a33, i33, j33, _, r33⟩, ok_p_steps F_Plan_steps T TC, F_Plan_steps.binds (ps := ["self"]) fun _ _ _ _ _ _ us hl => match us, hl with | [_], _ => rfl⟩
  have F_Plan_pieces := fun_mk (st := s_Plan_pieces) l34 c34 k34
  have P_pieces : PropC l.prog w K mg base C "pieces" (sp_p_pieces C) := ⟨pp34, f34, _, ⟨a34, i34, j34, _, r34⟩, ok_p_pieces F_Plan_pieces T TC, F_Plan_pieces.binds (ps := ["self"]) fun _ _ _ _ _ _ us hl => match us, hl with | [_], _ => rfl⟩
  have F_Plan_epochs := fun_mk (st := s_Plan_epochs) l35 c35 k35
  have P_epochs : PropC l.prog w K mg base C "epochs" (sp_p_epochs C) := ⟨pp35, f35, _, ⟨a35, i35, j35, _, r35⟩, ok_p_epochs F_Plan_epochs TC, F_Plan_epochs.binds (ps := ["self"]) fun _ _ _ _ _ _ us hl => match us, hl with | [_], _ => rfl⟩
  have F1 := fun_mk (st := s_is_integer) l1 c1 k1
  have c_is_integer : Cal l.prog w K mg base 1 "is_integer" ["thing"] (sp_is_integer K) := ⟨f1, _, ok_is_integer F1 T, PySem.W.mg_of X G a1, k1, F1.binds (ps := ["thing"]) fun _ _ _ _ _ _ us hl => match us, hl with | [_], _ => rfl⟩
  have F2 := fun_mk (st := s_is_index) l2 c2 k2
  have c_is_index : Cal l.prog w K mg base 2 "is_index" ["thing", "many"] (sp_is_index K) := ⟨f2, _, ok_is_index F2 T c_is_integer, PySem.W.mg_of X G a2, k2, F2.binds (ps := ["thing", "many"]) fun _ _ _ _ _ _ us hl => match us, hl with | [_, _], _ => rfl⟩
  have F3 := fun_mk (st := s_is_width) l3 c3 k3
  have c_is_width : Cal l.prog w K mg base 2 "is_width" ["thing"] (sp_is_width K) := ⟨f3, _, ok_is_width F3 T CK c_is_integer, PySem.W.mg_of X G a3, k3, F3.binds (ps := ["thing"]) fun _ _ _ _ _ _ us hl => match us, hl with | [_], _ => rfl⟩
  have F4 := fun_mk (st := s_are_worths) l4 c4 k4
  have c_are_worths : Cal l.prog w K mg base 3 "are_worths" ["thing"] (sp_are_worths K) := ⟨f4, _, ok_are_worths F4 T CK c_is_index, PySem.W.mg_of X G a4, k4, F4.binds (ps := ["thing"]) fun _ _ _ _ _ _ us hl => match us, hl with | [_], _ => rfl⟩
  have F5 := fun_mk (st := s_is_content) l5 c5 k5
  have c_is_content : Cal l.prog w K mg base 4 "is_content" ["thing"] (sp_is_content K) := ⟨f5, _, ok_is_content F5 T CK c_are_worths, PySem.W.mg_of X G a5, k5, F5.binds (ps := ["thing"]) fun _ _ _ _ _ _ us hl => match us, hl with | [_], _ => rfl⟩
  have F6 := fun_mk (st := s_is_step) l6 c6 k6
  have c_is_step : Cal l.prog w K mg base 4 "is_step" ["cells", "thing"] (sp_is_step K) := ⟨f6, _, ok_is_step F6 T c_is_index c_are_worths, PySem.W.mg_of X G a6, k6, F6.binds (ps := ["cells", "thing"]) fun _ _ _ _ _ _ us hl => match us, hl with | [_, _], _ => rfl⟩
  have F7 := fun_mk (st := s_broken) l7 c7 k7
  have c_broken : Cal l.prog w K mg base 1 "_broken" ["width", "index", "write"] sp_brokenX := ⟨f7, _, ok_brokenX F7 T, PySem.W.mg_of X G a7, k7, F7.binds (ps := ["width", "index", "write"]) fun _ _ _ _ _ _ us hl => match us, hl with | [_, _, _], _ => rfl⟩
  have F8 := fun_mk (st := s_pieces_of) l8 c8 k8
  have c_pieces_of : Cal l.prog w K mg base 2 "_pieces_of" ["width", "steps"] sp_piecesX := ⟨f8, _, ok_piecesX F8 T c_broken, PySem.W.mg_of X G a8, k8, F8.binds (ps := ["width", "steps"]) fun _ _ _ _ _ _ us hl => match us, hl with | [_, _], _ => rfl⟩
  have F9 := fun_mk (st := s_is_room) l9 c9 k9
  have c_is_room : Cal l.prog w K mg base 3 "is_room" ["width", "steps"] sp_roomX := ⟨f9, _, ok_roomX F9 T CK c_pieces_of, PySem.W.mg_of X G a9, k9, F9.binds (ps := ["width", "steps"]) fun _ _ _ _ _ _ us hl => match us, hl with | [_, _], _ => rfl⟩
  have c_is_roomE : Cal l.prog w K mg base 3 "is_room" ["width", "steps"] sp_roomE := ⟨f9, _, ok_roomE F9 T CK c_pieces_of, PySem.W.mg_of X G a9, k9, F9.binds (ps := ["width", "steps"]) fun _ _ _ _ _ _ us hl => match us, hl with | [_, _], _ => rfl⟩
  have F10 := fun_mk (st := s_are_steps) l10 c10 k10
  have c_are_steps : Cal l.prog w K mg base 5 "are_steps" ["cells", "width", "thing"] (sp_are_steps K sp_roomX) := ⟨f10, _, ok_are_steps F10 T c_is_step c_is_room, PySem.W.mg_of X G a10, k10, F10.binds (ps := ["cells", "width", "thing"]) fun _ _ _ _ _ _ us hl => match us, hl with | [_, _, _], _ => rfl⟩
  have F11 := fun_mk (st := s_epochs_of) l11 c11 k11
  have c_epochs_of : Cal l.prog w K mg base 1 "_epochs_of" ["steps"] sp_epochsX := ⟨f11, _, ok_epochsX F11 T, PySem.W.mg_of X G a11, k11, F11.binds (ps := ["steps"]) fun _ _ _ _ _ _ us hl => match us, hl with | [_], _ => rfl⟩
  have G_Plan := ok_initX (P := l.prog) (w := w) (base := base) F_Plan___init T TC c_is_content c_is_width c_are_steps c_epochs_of c_pieces_of
  have G_eq := ok_eq (P := l.prog) (w := w) (base := base) F_Plan___eq T TC
  have NC : NumC mg := ⟨⟨_, PySem.W.mg_of X G figP⟩, ⟨_, PySem.W.mg_of X G mostP⟩⟩
  have F12 := fun_mk (st := s_number_in) l12 c12 k12
  have c_number_in : Cal l.prog w K mg base 1 "number_in" ["word"] sp_number := ⟨f12, _, ok_number_in F12 T NC, PySem.W.mg_of X G a12, k12, F12.binds (ps := ["word"]) fun _ _ _ _ _ _ us hl => match us, hl with | [_], _ => rfl⟩
  have F13 := fun_mk (st := s_numbers_behind) l13 c13 k13
  have c_numbers_behind : Cal l.prog w K mg base 2 "_numbers_behind" ["word", "line"] sp_numbers := ⟨f13, _, ok_numbers_behind F13 T c_number_in, PySem.W.mg_of X G a13, k13, F13.binds (ps := ["word", "line"]) fun _ _ _ _ _ _ us hl => match us, hl with | [_, _], _ => rfl⟩
  have F14 := fun_mk (st := s_width_in) l14 c14 k14
  have c_width_in : Cal l.prog w K mg base 3 "_width_in" ["line"] sp_width_in := ⟨f14, _, ok_width_in F14 T c_numbers_behind, PySem.W.mg_of X G a14, k14, F14.binds (ps := ["line"]) fun _ _ _ _ _ _ us hl => match us, hl with | [_], _ => rfl⟩
  have F15 := fun_mk (st := s_step_in) l15 c15 k15
  have c_step_in : Cal l.prog w K mg base 3 "_step_in" ["line"] sp_step_in := ⟨f15, _, ok_step_in F15 T c_numbers_behind, PySem.W.mg_of X G a15, k15, F15.binds (ps := ["line"]) fun _ _ _ _ _ _ us hl => match us, hl with | [_], _ => rfl⟩
  have F16 := fun_mk (st := s_steps_in) l16 c16 k16
  have c_steps_in : CalX l.prog w K mg base 5 "_steps_in" ["lines", "width", "cells"] (sp_steps_in CP) := ⟨f16, _, ok_steps_in F16 T PC c_step_in c_is_step c_is_roomE, PySem.W.mg_of X G a16, k16, F16.binds (ps := ["lines", "width", "cells"]) fun _ _ _ _ _ _ us hl => match us, hl with | [_, _, _], _ => rfl⟩
  have F17 := fun_mk (st := s_parse_plan) l17 c17 k17
  have c_parse_plan : CalX l.prog w K mg base 8 "parse_plan" ["text"] (sp_parse2 K C CP) := ⟨f17, _, FnOk.or (ok_parse F17 T t_str PC TC M_Plan___init G_Plan b_Plan___init c_width_in c_is_width c_is_content c_numbers_behind c_steps_in) (ok_parseX F17 T t_str PC TC M_Plan___init G_Plan b_Plan___init c_width_in c_is_width c_is_content c_numbers_behind c_steps_in), PySem.W.mg_of X G a17, k17, F17.binds (ps := ["text"]) fun _ _ _ _ _ _ us hl => match us, hl with | [_], _ => rfl⟩
  have F18 := fun_mk (st := s_l_split) l18 c18 k18
  have c_l_split : Cal l.prog w K mg base 1 "_law_split" ["_law_index", "_law_step_here", "_law_span_here"] sp_split := ⟨f18, _, ok_split F18 T, PySem.W.mg_of X G a18, k18, F18.binds (ps := ["_law_index", "_law_step_here", "_law_span_here"]) fun _ _ _ _ _ _ us hl => match us, hl with | [_, _, _], _ => rfl⟩
  have F19 := fun_mk (st := s_l_parts) l19 c19 k19
  have c_l_parts : Cal l.prog w K mg base 2 "_law_parts" ["_law_plan_here"] sp_partsX := ⟨f19, _, ok_partsX F19 T c_l_split, PySem.W.mg_of X G a19, k19, F19.binds (ps := ["_law_plan_here"]) fun _ _ _ _ _ _ us hl => match us, hl with | [_], _ => rfl⟩
  have F20 := fun_mk (st := s_l_plan_of) l20 c20 k20
  have c_l_plan_of : Cal l.prog w K mg base 8 "_law_plan_of" ["_law_plan_here"] (sp_plan_of C) := ⟨f20, _, ok_plan_of F20 T TC M_Plan___init G_Plan b_Plan___init, PySem.W.mg_of X G a20, k20, F20.binds (ps := ["_law_plan_here"]) fun _ _ _ _ _ _ us hl => match us, hl with | [_], _ => rfl⟩
  have F21 := fun_mk (st := s_l_figures) l21 c21 k21
  have c_l_figures : Cal l.prog w K mg base 1 "_law_figures" ["_law_word", "_law_under"] sp_figures := ⟨f21, _, ok_figures F21 T t_str, PySem.W.mg_of X G a21, k21, F21.binds (ps := ["_law_word", "_law_under"]) fun _ _ _ _ _ _ us hl => match us, hl with | [_, _], _ => rfl⟩
  have F22 := fun_mk (st := s_l_row_of) l22 c22 k22
  have c_l_row_of : Cal l.prog w K mg base 2 "_law_row_of" ["_law_line_here", "_law_many"] sp_row_of := ⟨f22, _, ok_row_of F22 T c_l_figures, PySem.W.mg_of X G a22, k22, F22.binds (ps := ["_law_line_here", "_law_many"]) fun _ _ _ _ _ _ us hl => match us, hl with | [_, _], _ => rfl⟩
  have F23 := fun_mk (st := s_l_read) l23 c23 k23
  have c_l_read : Cal l.prog w K mg base 3 "_law_read" ["_law_thing"] (sp_read K) := ⟨f23, _, ok_read F23 T t_str c_l_figures c_l_row_of c_l_parts, PySem.W.mg_of X G a23, k23, F23.binds (ps := ["_law_thing"]) fun _ _ _ _ _ _ us hl => match us, hl with | [_], _ => rfl⟩
  have F24 := fun_mk (st := s_l_parsed) l24 c24 k24
  have c_l_parsed : Cal l.prog w K mg base 9 "_law_parsed" ["_law_thing"] (sp_parsed K C) := ⟨f24, _, ok_parsed F24 T t_ValueError XP c_parse_plan, PySem.W.mg_of X G a24, k24, F24.binds (ps := ["_law_thing"]) fun _ _ _ _ _ _ us hl => match us, hl with | [_], _ => rfl⟩
  have F25 := fun_mk (st := s_l_read_right) l25 c25 k25
  have c_l_read_right : CalG l.prog w K mg base 10 "_law_read_right" ["_law_thing"] (sp_rr K) := ⟨f25, _, ok_read_right F25 T t_repr TC O G_eq b_Plan___eq P_base P_width P_steps c_l_read c_l_parsed c_l_plan_of, PySem.W.mg_of X G a25, k25, F25.binds (ps := ["_law_thing"]) fun _ _ _ _ _ _ us hl => match us, hl with | [_], _ => rfl⟩
  have F26 := fun_mk (st := s_l_heads) l26 c26 k26
  have c_l_heads : Cal l.prog w K mg base 1 "_law_heads" [] (sp_txts 100) := ⟨f26, _, ok_heads F26 T, PySem.W.mg_of X G a26, k26, F26.binds (ps := []) fun _ _ _ _ _ _ us hl => match us, hl with | [], _ => rfl⟩
  have F27 := fun_mk (st := s_l_tails) l27 c27 k27
  have c_l_tails : Cal l.prog w K mg base 1 "_law_tails" [] (sp_txts 100) := ⟨f27, _, ok_tails F27 T, PySem.W.mg_of X G a27, k27, F27.binds (ps := []) fun _ _ _ _ _ _ us hl => match us, hl with | [], _ => rfl⟩
  exact ok_law (fun_mk (st := s_law) l28 c28 k28) T c_l_read_right c_l_heads c_l_tails
theorem walk {l : PySem.W.OpenLaw} {q : Program} {loose : List Str} {XP : (Str → Option Value) → Heap → Prop} {YP : World → Heap → Prop} {d : DefRec} {K : Params → PySem.W.Frag} (hn : l.most = some 63) (hdf : d.params.defaults = [])
    (hY : ∀ (w : World) (h : Heap), YP w h → (K w.params).In h)
    (F : ∀ (w : World) (mg : Str → Option Value) (fa : Addr) (h : Heap), (K w.params).In h → h.Ns mainGlobals mg → mg d.name = some (.ref fa) →
      ∃ fd : FuncData, (∀ (s : Shared) (u : Value), BindsTo s fd ⟨[u], []⟩ [("_law_script", u)]) ∧ ∀ base : Heap, (K w.params).In base → base.Ns mainGlobals mg → FnG l.prog w (K w.params) mg base 11 fa fd ["_law_script"] (sp_law (K w.params))) :
    PySem.W.WalkO q loose XP YP l.row.toRowW d [] (fun f vs => PySem.call f vs) :=
  walkG (n := 63) (k := 11) (x := "_law_script") (sp := fun w => sp_law (K w.params)) hn (by decide) hdf ⟨rfl, by decide, by decide⟩ hY F fun _ _ a ns hl _ hS => ⟨a, ns, rfl, hS, fun _ => rfl⟩
end Af

open PySem PySem.W PyProof.Rows in
set_option maxRecDepth 100000 in
set_option maxHeartbeats 0 in
theorem PySem.Challenge.cw_afterfall_k09_texts_that_are_none_holds : PySem.Challenge.rw_afterfall_k09_texts_that_are_none.Holds := by
  w_on; o_law; k_head; (case hw => w_witness2)
  k_fill
  refine Af.walk (l := PySem.Challenge.rw_afterfall_k09_texts_that_are_none) rfl rfl (fun w h Y => PySem.W.kIn_of Y) ?F
  case F =>
    intro w mg fa h KX G hmg
    refine' Af.all_mk KX G hmg ?a1 ?l1 ?c1 ?k1 ?a2 ?l2 ?c2 ?k2 ?a3 ?l3 ?c3 ?k3 ?a4 ?l4 ?c4 ?k4 ?a5 ?l5 ?c5 ?k5 ?a6 ?l6 ?c6 ?k6 ?a7 ?l7 ?c7 ?k7 ?a8 ?l8 ?c8 ?k8 ?a9 ?l9 ?c9 ?k9 ?a10 ?l10 ?c10 ?k10 ?a11 ?l11 ?c11 ?k11 ?a12 ?l12 ?c12 ?k12 ?a13 ?l13 ?c13 ?k13 ?a14 ?l14 ?c14 ?k14 ?a15 ?l15 ?c15 ?k15 ?a16 ?l16 ?c16 ?k16 ?a17 ?l17 ?c17 ?k17 ?a18 ?l18 ?c18 ?k18 ?a19 ?l19 ?c19 ?k19 ?a20 ?l20 ?c20 ?k20 ?a21 ?l21 ?c21 ?k21 ?a22 ?l22 ?c22 ?k22 ?a23 ?l23 ?c23 ?k23 ?a24 ?l24 ?c24 ?k24 ?a25 ?l25 ?c25 ?k25 ?a26 ?l26 ?c26 ?k26 ?a27 ?l27 ?c27 ?k27 ?a28 ?l28 ?c28 ?k28 ?aC ?a29 ?i29 ?l29 ?c29 ?k29 ?a30 ?i30 ?l30 ?c30 ?k30 ?a31 ?i31 ?j31 ?r31 ?l31 ?c31 ?k31 ?a32 ?i32 ?j32 ?r32 ?l32 ?c32 ?k32 ?a33 ?i33 ?j33 ?r33 ?l33 ?c33 ?k33 ?a34 ?i34 ?j34 ?r34 ?l34 ?c34 ?k34 ?a35 ?i35 ?j35 ?r35 ?l35 ?c35 ?k35 ?pg ?hd ?po ?sa ?mk ?kc ?ic ?tc ?ha ?hn ?htk ?hm ?hne ?n0 ?n1 ?n2 ?n3 ?n4 ?n5 ?gCF ?gCP ?yb ?yd ?yt ?yeP ?oxP ?saP ?bP ?tP ?kP ?c1P ?iP ?tfP ?lP ?cP ?clP ?coP ?vP ?mfP ?topP ?suP ?opP ?inP ?veP ?noP ?gaP ?gtP ?hdP ?haP ?hmP ?zr ?z0 ?z1 ?z2 ?z3 ?z4 ?z5 ?z6 ?z7 ?z8 ?z9 ?z10 ?ValueError ?str ?m0 ?m1 ?m2 ?figP ?mostP ?u0 ?w0 ?x0 ?y0
    (case a1 => k_is)
    (case l1 => k_is)
    (case c1 => k_is)
    (case k1 => k_is)
    (case a2 => k_is)
    (case l2 => k_is)
    (case c2 => k_is)
    (case k2 => k_is)
    (case a3 => k_is)
    (case l3 => k_is)
    (case c3 => k_is)
    (case k3 => k_is)
    (case a4 => k_is)
    (case l4 => k_is)
    (case c4 => k_is)
    (case k4 => k_is)
    (case a5 => k_is)
    (case l5 => k_is)
    (case c5 => k_is)
    (case k5 => k_is)
    (case a6 => k_is)
    (case l6 => k_is)
    (case c6 => k_is)
    (case k6 => k_is)
    (case a7 => k_is)
    (case l7 => k_is)
    (case c7 => k_is)
    (case k7 => k_is)
    (case a8 => k_is)
    (case l8 => k_is)
    (case c8 => k_is)
    (case k8 => k_is)
    (case a9 => k_is)
    (case l9 => k_is)
    (case c9 => k_is)
    (case k9 => k_is)
    (case a10 => k_is)
    (case l10 => k_is)
    (case c10 => k_is)
    (case k10 => k_is)
    (case a11 => k_is)
    (case l11 => k_is)
    (case c11 => k_is)
    (case k11 => k_is)
    (case a12 => k_is)
    (case l12 => k_is)
    (case c12 => k_is)
    (case k12 => k_is)
    (case a13 => k_is)
    (case l13 => k_is)
    (case c13 => k_is)
    (case k13 => k_is)
    (case a14 => k_is)
    (case l14 => k_is)
    (case c14 => k_is)
    (case k14 => k_is)
    (case a15 => k_is)
    (case l15 => k_is)
    (case c15 => k_is)
    (case k15 => k_is)
    (case a16 => k_is)
    (case l16 => k_is)
    (case c16 => k_is)
    (case k16 => k_is)
    (case a17 => k_is)
    (case l17 => k_is)
    (case c17 => k_is)
    (case k17 => k_is)
    (case a18 => k_is)
    (case l18 => k_is)
    (case c18 => k_is)
    (case k18 => k_is)
    (case a19 => k_is)
    (case l19 => k_is)
    (case c19 => k_is)
    (case k19 => k_is)
    (case a20 => k_is)
    (case l20 => k_is)
    (case c20 => k_is)
    (case k20 => k_is)
    (case a21 => k_is)
    (case l21 => k_is)
    (case c21 => k_is)
    (case k21 => k_is)
    (case a22 => k_is)
    (case l22 => k_is)
    (case c22 => k_is)
    (case k22 => k_is)
    (case a23 => k_is)
    (case l23 => k_is)
    (case c23 => k_is)
    (case k23 => k_is)
    (case a24 => k_is)
    (case l24 => k_is)
    (case c24 => k_is)
    (case k24 => k_is)
    (case a25 => k_is)
    (case l25 => k_is)
    (case c25 => k_is)
    (case k25 => k_is)
    (case a26 => k_is)
    (case l26 => k_is)
    (case c26 => k_is)
    (case k26 => k_is)
    (case a27 => k_is)
    (case l27 => k_is)
    (case c27 => k_is)
    (case k27 => k_is)
    (case a28 => k_is)
    (case l28 => k_is)
    (case c28 => k_is)
    (case k28 => k_is)
    (case aC => k_is)
    (case a29 => k_is)
    (case i29 => k_is)
    (case l29 => k_is)
    (case c29 => k_is)
    (case k29 => k_is)
    (case a30 => k_is)
    (case i30 => k_is)
    (case l30 => k_is)
    (case c30 => k_is)
    (case k30 => k_is)
    (case a31 => k_is)
    (case i31 => k_is)
    (case j31 => k_is)
    (case r31 => k_is)
    (case l31 => k_is)
    (case c31 => k_is)
    (case k31 => k_is)
    (case a32 => k_is)
    (case i32 => k_is)
    (case j32 => k_is)
    (case r32 => k_is)
    (case l32 => k_is)
    (case c32 => k_is)
    (case k32 => k_is)
    (case a33 => k_is)
    (case i33 => k_is)
    (case j33 => k_is)
    (case r33 => k_is)
    (case l33 => k_is)
    (case c33 => k_is)
    (case k33 => k_is)
    (case a34 => k_is)
    (case i34 => k_is)
    (case j34 => k_is)
    (case r34 => k_is)
    (case l34 => k_is)
    (case c34 => k_is)
    (case k34 => k_is)
    (case a35 => k_is)
    (case i35 => k_is)
    (case j35 => k_is)
    (case r35 => k_is)
    (case l35 => k_is)
    (case c35 => k_is)
    (case k35 => k_is)
    (case pg => k_is)
    (case hd => k_is)
    (case po => k_is)
    (case sa => k_is)
    (case mk => k_is)
    (case kc => k_is)
    (case ic => k_is)
    (case tc => k_is)
    (case ha => k_is)
    (case hn => k_is)
    (case htk => k_is)
    (case hm => k_is)
    (case hne => k_is)
    (case n0 => k_is)
    (case n1 => k_is)
    (case n2 => k_is)
    (case n3 => k_is)
    (case n4 => k_is)
    (case n5 => k_is)
    (case gCF => k_is)
    (case gCP => k_is)
    (case yb => k_is)
    (case yd => k_is)
    (case yt => k_is)
    (case yeP => k_is)
    (case oxP => first | k_is | kernel_rfl | decide +kernel)
    (case saP => k_is)
    (case bP => k_is)
    (case tP => k_is)
    (case kP => k_is)
    (case c1P => k_is)
    (case iP => k_is)
    (case tfP => k_is)
    (case lP => k_is)
    (case cP => k_is)
    (case clP => k_is)
    (case coP => k_is)
    (case vP => rfl)
    (case mfP => first | rfl | decide +kernel)
    (case topP => first | rfl | decide +kernel)
    (case suP => k_is)
    (case opP => k_is)
    (case inP => first | ks_is | first | k_is | kernel_rfl | decide +kernel)
    (case veP => k_is)
    (case noP => k_is)
    (case gaP => k_is)
    (case gtP => k_is)
    (case hdP => k_is)
    (case haP => k_is)
    (case hmP => k_is)
    (case zr => k_is)
    (case z0 => k_is)
    (case z1 => k_is)
    (case z2 => k_is)
    (case z3 => k_is)
    (case z4 => k_is)
    (case z5 => k_is)
    (case z6 => k_is)
    (case z7 => k_is)
    (case z8 => k_is)
    (case z9 => k_is)
    (case z10 => k_is)
    (case ValueError => k_is)
    (case str => k_is)
    (case m0 => k_is)
    (case m1 => k_is)
    (case m2 => k_is)
    (case figP => k_is)
    (case mostP => k_is)
    (case u0 => k_is)
    (case w0 => k_is)
    (case x0 => decide)
    (case y0 => exact .cons ⟨_, rfl⟩ (.cons ⟨_, rfl⟩ (.cons ⟨_, rfl⟩ (.cons ⟨_, rfl⟩ (.cons ⟨_, rfl⟩ (.cons ⟨_, rfl⟩ (.cons ⟨_, rfl⟩ (.cons ⟨_, rfl⟩ .nil))))))))

