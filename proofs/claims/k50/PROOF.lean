import PyProof.Rows.All
import Wide.All
import OpenK.AllK
import Wide.FinOn
import HandS.ForMost
import HandS.ForExc
import HandS.TupAny
import HandS.TupMul
import HandS.Style
import HandS.OwnEq
import HandS.IsInst
import HandS.Zip
import KE.DataFind
import PyProof.ReprRoads
import PyProof.ReprLen
import HandS.ExcIs
import HandS.ExcValue
import HandS.Property
import HandS.NamedTupGet
import HandS.Walk
import HandS.Small
import HandS.More
import HandS.DictComp
import HandS.Iter
import HandS.Conv
import PySem.Challenge.RW_afterfall_k50_errors_of_stores
set_option Elab.async false
set_option linter.all false
set_option maxRecDepth 100000
namespace Af
open PySem L2

/-! heaps -/
theorem same_new {H : Hp} {p : Addr} {o : HO} (h : H p = none) : Same H (upd H p o) := fun b u e => by
  rw [upd_ne (ne_of_none e h)]
  exact e
theorem nofree {H : Hp} {p q : Addr} {o : HO} (h : H p = some o) (h' : H q = none) : q ≠ p := fun e => by
  rw [e, h] at h'
  cases h'

/-- a new object o -/
def New (o : HO) (H : Hp) (Q : VK) : Prop := ∀ (p : Addr) (H' : Hp), H p = none → Same H H' → H' p = some o → Q (.ref p) H'
theorem New.mk {o : HO} {H : Hp} {Q : VK} (h : New o H Q) : ∀ p, H p = none → Q (.ref p) (upd H p o) := fun p hp => h p _ hp (same_new hp) upd_same
/-- a tuple of xs, new or not -/
def NewT (xs : List V) (H : Hp) (Q : VK) : Prop := ∀ (p : Addr) (H' : Hp), Same H H' → H' p = some (.tup xs) → Q (.ref p) H'

theorem pe_imp {X : Cx} {e : Expr} {t t' : TE} (h : PE X e t) (i : ∀ σ H Q, t' σ H Q → t σ H Q) : PE X e t' := ⟨fun pins s σ H Q I q => h.run pins s σ H Q I (i σ H Q q)⟩
theorem op_imp {X : Cx} {f : Value → Value → Sem Value} {r r' : R2} (h : OpR X f r) (i : ∀ x y H Q, r' x y H Q → r x y H Q) : OpR X f r' :=
  fun pins s σ H x y v u Q I rx ry q => h pins s σ H x y v u Q I rx ry (i x y H Q q)
theorem call_imp {X : Cx} {f : Value} {r r' : List V → Hp → VK → Prop} (h : CallR X f r) (i : ∀ xs H Q, r' xs H Q → r xs H Q) : CallR X f r' :=
  fun pins s σ H xs us Q I rs q => h pins s σ H xs us Q I rs (i xs H Q q)

/-! displays -/
def tTup' (t : TA) : TE := fun σ H Q => t σ H fun xs H1 => xs.length ≤ sizeLine ∧ New (.tup xs) H1 Q
def tLst' (t : TA) : TE := fun σ H Q => t σ H fun xs H1 => xs.length ≤ sizeLine ∧ New (.lst xs) H1 Q
section
variable {X : Cx} {e : Expr} {es : List Expr} {te : TE} {t : TA} {pos : Pos}
theorem pe_tup' {x1 : Nat} (h : PA X es t) : PE X (.Tuple es x1 pos) (tTup' t) := ⟨fun pins s σ H Q I hq =>
  wpAny_Tuple_spliced (thn (h.run pos pins s σ H _ I hq) fun us s1 z => by
    obtain ⟨xs, H1, I1, r, z, q⟩ := z
    refine ⟨by rw [← r.length]; exact z, ?_⟩
    have hf := I1.fresh
    exact ⟨.ref s1.heap.objs.size, upd H1 s1.heap.objs.size (.tup xs),
      I1.laid (t' := s1.toks) (fun b u e => Heap.get?_push_of_some _ e) (Nat.le_refl _) ⟨z, us, r, ⟨_, Heap.get?_push_size _ rfl, rfl, _, rfl⟩⟩, rfl, q.mk _ hf⟩)⟩
theorem pe_lst' (h : PA X es t) : PE X (.List es pos) (tLst' t) := ⟨fun pins s σ H Q I hq =>
  wpAny_List_spliced (thn (h.run pos pins s σ H _ I hq) fun us s1 z => by
    obtain ⟨xs, H1, I1, r, z, q⟩ := z
    refine ⟨by rw [← r.length]; exact z, ?_⟩
    have hf := I1.fresh
    exact ⟨.ref s1.heap.objs.size, upd H1 s1.heap.objs.size (.lst xs),
      I1.laid (t' := s1.toks) (fun b u e => Heap.get?_push_of_some _ e) (Nat.le_refl _) ⟨z, us, 0, r, Heap.get?_push_size _ rfl⟩, rfl, q.mk _ hf⟩)⟩

/-! lists and tuples -/
def rCat' : R2 := fun x y H Q => ∃ l b xs zs, x = .ref l ∧ y = .ref b ∧ H l = some (.lst xs) ∧ H b = some (.lst zs) ∧ xs.length + zs.length ≤ sizeLine ∧ New (.lst (xs ++ zs)) H Q
theorem op_cat' : OpR X (binaryOp .Add) rCat' := op_imp op_cat fun x y H Q h => by
  obtain ⟨l, b, xs, zs, h1, h2, h3, h4, h5, q⟩ := h
  exact ⟨l, b, xs, zs, h1, h2, h3, h4, h5, q.mk⟩
def rCatT' : R2 := fun x y H Q => ∃ a b xs ys, x = .ref a ∧ y = .ref b ∧ H a = some (.tup xs) ∧ H b = some (.tup ys) ∧ xs.length + ys.length ≤ sizeLine ∧ NewT (xs ++ ys) H Q
theorem op_catT' : OpR X (binaryOp .Add) rCatT' := op_imp op_catA fun x y H Q h => by
  obtain ⟨a, b, xs, ys, h1, h2, h3, h4, h5, q⟩ := h
  refine ⟨a, b, xs, ys, h1, h2, SqT.of h3, SqT.of h4, h5, fun e => ?_, fun _ e => ?_, fun _ _ p hp => q p _ (same_new hp) upd_same⟩
  · subst e
    exact q b H (Same.refl H) h4
  · subst e
    exact q a H (Same.refl H) (by rw [List.append_nil]; exact h3)
def rRep' : R2 := fun x y H Q => ∃ l k xs, x = .ref l ∧ y = .int k ∧ H l = some (.lst xs) ∧ 0 ≤ k ∧ k ≤ 1000 ∧ xs.length * k.toNat ≤ sizeLine ∧ New (.lst (List.replicate k.toNat xs).flatten) H Q
theorem op_rep' : OpR X (binaryOp .Mult) rRep' := op_imp op_rep fun x y H Q h => by
  obtain ⟨l, k, xs, h1, h2, h3, h4, h5, h6, q⟩ := h
  exact ⟨l, k, xs, h1, h2, h3, by omega, by omega, h6, q.mk⟩
theorem sl_imp {r r' : V → Option Int → Option Int → Hp → VK → Prop} (h : SlR X r) (i : ∀ x lo hi H Q, r' x lo hi H Q → r x lo hi H Q) : SlR X r' :=
  fun pins s σ H x v vl vu lo hi sl Q I rx hs pl pu q => h pins s σ H x v vl vu lo hi sl Q I rx hs pl pu (i x lo hi H Q q)
def rSlL' : V → Option Int → Option Int → Hp → VK → Prop := fun x lo hi H Q => ∃ a xs, x = .ref a ∧ H a = some (.lst xs) ∧ New (.lst (cutV xs lo hi)) H Q
theorem sl_list' : SlR X rSlL' := sl_imp sl_list fun x lo hi H Q h => by
  obtain ⟨a, xs, h1, h2, q⟩ := h
  exact ⟨a, xs, h1, SqL.of h2, q.mk⟩
theorem cut_all {xs : List V} {lo hi : Option Int} (h : HT.sIx xs.length 0 lo = 0 ∧ HT.sIx xs.length xs.length hi = xs.length) : cutV xs lo hi = xs := by
  unfold cutV
  rw [h.1, h.2]
  simp
def rSlT' : V → Option Int → Option Int → Hp → VK → Prop := fun x lo hi H Q => ∃ a xs, x = .ref a ∧ H a = some (.tup xs) ∧ NewT (cutV xs lo hi) H Q
theorem sl_tup' : SlR X rSlT' := sl_imp sl_tupA fun x lo hi H Q h => by
  obtain ⟨a, xs, h1, h2, q⟩ := h
  refine ⟨a, xs, h1, SqT.of h2, fun w => ?_, fun _ p hp => q p _ (same_new hp) upd_same⟩
  exact q a H (Same.refl H) (by rw [cut_all w]; exact h2)
def Sq (H : Hp) (p : Addr) (ys : List V) : Prop := H p = some (.lst ys) ∨ H p = some (.tup ys)
theorem Sq.or {K : PySem.W.Frag} {H : Hp} {p : Addr} {ys : List V} (h : Sq H p ys) : SqL K H p ys ∨ SqT K H p ys := h.elim (fun h => .inl (SqL.of h)) fun h => .inr (SqT.of h)
def rList' : List V → Hp → VK → Prop := fun xs H Q => ∃ p ys, xs = [.ref p] ∧ Sq H p ys ∧ New (.lst ys) H Q
theorem call_list' : CallR X (.type "list") rList' := call_imp call_list_of fun xs H Q h => by
  obtain ⟨p, ys, h1, h2, q⟩ := h
  exact ⟨p, ys, h1, h2.or, q.mk⟩
def rTuple' : List V → Hp → VK → Prop := fun xs H Q => ∃ p ys, xs = [.ref p] ∧ Sq H p ys ∧ NewT ys H Q
theorem call_tuple' : CallR X (.type "tuple") rTuple' := call_imp call_tuple_of fun xs H Q h => by
  obtain ⟨p, ys, h1, h2, q⟩ := h
  rcases h2 with h2 | h2
  · exact ⟨p, ys, h1, .inl ⟨SqL.of h2, fun l hl => q l _ (same_new hl) upd_same⟩⟩
  · exact ⟨p, ys, h1, .inr ⟨SqT.of h2, q p H (Same.refl H) h2⟩⟩
def rLen' : List V → Hp → VK → Prop := fun xs H Q => ∃ p ys, xs = [.ref p] ∧ Sq H p ys ∧ Q (.int ys.length) H
theorem call_len' : CallR X (.builtin "len") rLen' := call_imp call_len_seq fun xs H Q h => by
  obtain ⟨p, ys, h1, h2, q⟩ := h
  exact ⟨p, ys, h1, h2.or, q⟩
def rLenK (K : PySem.W.Frag) : List V → Hp → VK → Prop := fun xs H Q => ∃ p ys, xs = [.ref p] ∧ (SqL K H p ys ∨ SqT K H p ys) ∧ Q (.int ys.length) H
theorem call_lenK : CallR X (.builtin "len") (rLenK X.K) := call_len_seq
theorem ix_imp {r r' : R2} (h : IxR X r) (i : ∀ x y H Q, r' x y H Q → r x y H Q) : IxR X r' :=
  fun value slice pins s σ H x y v u Q I rx ry q hs => h value slice pins s σ H x y v u Q I rx ry (i x y H Q q) hs
def rIx' : R2 := fun x y H Q => ∃ p xs i v, x = .ref p ∧ y = .int i ∧ Sq H p xs ∧ atI xs i = some v ∧ Q v H
theorem ix_seq' : IxR X rIx' := ix_imp (ix_list.or ix_tup) fun x y H Q h => by
  obtain ⟨p, xs, i, v, h1, h2, h3, h4, q⟩ := h
  rcases h3 with h3 | h3
  · exact .inl ⟨p, xs, i, v, h1, h2, SqL.of h3, h4, q⟩
  · exact .inr ⟨p, xs, i, v, h1, h2, SqT.of h3, h4, q⟩
/-- xs[::-1] -/
def tRev' (te : TE) : TE := fun σ H Q => te σ H fun x H1 => ∃ a xs, x = .ref a ∧ H1 a = some (.lst xs) ∧ New (.lst xs.reverse) H1 Q
end

/-! a def of the text, called -/
structure Cal (P : Program) (w : World) (K : PySem.W.Frag) (mg : Str → Option Value) (base : Heap) (k : Nat) (x : Str) (ps : List Str) (sp : Sp) : Prop where
  ex : ∃ (f : Addr) (fd : FuncData), FnOk P w K mg base CX0 k f fd ps sp ∧ mg x = some (.ref f) ∧ PySem.W.keepIn K (.ref f) = true ∧ Binds K fd ps []
def tCal (sp : Sp) (t : TA) : TE := fun σ H Q => t σ H fun vs H1 => sp vs H1 Q E0
section
variable {X : Cx} {k j : Nat} {x : Str} {ps : List Str} {sp : Sp} {e : Expr} {es : List Expr} {t : TA} {p pos : Pos}
theorem pe_cal (c : Cal X.prog X.w X.K X.mg X.base k x ps sp) (hr : Room j X.A) (ha : PA X (e :: es) t) (hkj : k ≤ j := by decide) (hg : Gl X x := by rfl) (hdb : (x == ("__debug__" : Str)) = false := by decide)
    (he : starEach (e :: es) X.env = (false, eval e X.env) :: starEach es X.env := by rfl) (hpl : (backTo pos (starEach es X.env)).any (·.1) = false := by rfl) :
    PE X (.Call (.Name x p) (e :: es) [] pos) (tCal sp t) := by
  obtain ⟨f, fd, G, m, kp, b⟩ := c.ex
  have := pe_call (pos := pos) (p := p) G (hr.mono hkj) hg m kp b .nil pass0 ha hdb he hpl
  refine ⟨fun pins s σ H Q I h => this.run pins s σ H Q I ?_⟩
  have e1 : tCal sp t = tCall sp [] E0 t := by
    funext σ H Q
    unfold tCal tCall
    simp only [List.append_nil]
  rw [← e1]
  exact h
theorem pe_cal0 (c : Cal X.prog X.w X.K X.mg X.base k x ps sp) (hr : Room j X.A) (hkj : k ≤ j := by decide) (hg : Gl X x := by rfl) (hdb : (x == ("__debug__" : Str)) = false := by decide) :
    PE X (.Call (.Name x p) [] [] pos) (tCal sp tNil) := by
  obtain ⟨f, fd, G, m, kp, b⟩ := c.ex
  exact pe_call0 (pos := pos) (p := p) G (hr.mono hkj) hg m kp b .nil pass0 hdb
end

/-! ways that meet again behind a statement: J tells where -/
def tCut (t : TS) : TS := fun D σ H => ∃ J : L2.St → Hp → Prop, t { D with nx := J } σ H ∧ ∀ σ' H', J σ' H' → D.nx σ' H'
theorem ps_cut {X : Cx} {st : Stmt} {t : TS} (h : PS X st t) : PS X st (tCut t) := ⟨fun pins s σ H D I q => by
  obtain ⟨J, q1, q2⟩ := q
  refine thn (h.run pins s σ H { D with nx := J } I q1) fun f s1 z => ?_
  cases f with
  | next =>
    obtain ⟨σ', H', I', z⟩ := z
    exact ⟨σ', H', I', q2 σ' H' z⟩
  | ret v => exact z
  | brk => exact z
  | cont => exact z⟩

/-! the pen: its list, its cells' list, the cells; how often it was asked (at most m), what is left -/
structure Pn where
  p : Addr
  c : Addr
  ns : List Int
structure Pen (q : Pn) (m : Nat) (H : Hp) : Prop where
  ex : ∃ (i n : Int), H q.p = some (.lst [.ref q.c, .int i, .int n]) ∧ H q.c = some (.lst (q.ns.map V.int)) ∧ q.c ≠ q.p ∧ 0 ≤ i ∧ i ≤ (m : Int) ∧ 0 ≤ n
theorem Pen.same {q : Pn} {m : Nat} {H H' : Hp} (h : Pen q m H) (s : Same H H') : Pen q m H' := by
  obtain ⟨i, n, h1, h2, h3⟩ := h.ex
  exact ⟨i, n, s _ _ h1, s _ _ h2, h3⟩
theorem Pen.mono {q : Pn} {m m' : Nat} {H : Hp} (h : Pen q m H) (l : m ≤ m') : Pen q m' H := by
  obtain ⟨i, n, h1, h2, h3, h4, h5, h6⟩ := h.ex
  exact ⟨i, n, h1, h2, h3, h4, by omega, h6⟩
theorem Pen.lst {q : Pn} {m : Nat} {H : Hp} (h : Pen q m H) : ∃ l, H q.p = some (.lst l) := by
  obtain ⟨i, n, h1, _⟩ := h.ex
  exact ⟨_, h1⟩
theorem Pen.free {q : Pn} {m : Nat} {H : Hp} {a : Addr} (h : Pen q m H) (e : H a = none) : a ≠ q.p ∧ a ≠ q.c := by
  obtain ⟨i, n, h1, h2, _⟩ := h.ex
  refine ⟨fun z => ?_, fun z => ?_⟩
  · rw [z, h1] at e
    cases e
  · rw [z, h2] at e
    cases e
/-- an object that is not the pen's is changed -/
theorem Pen.upd {q : Pn} {m : Nat} {H : Hp} {a : Addr} {o : HO} (h : Pen q m H) (n : a ≠ q.p ∧ a ≠ q.c) : Pen q m (upd H a o) := by
  obtain ⟨i, r, h1, h2, h3⟩ := h.ex
  exact ⟨i, r, by rw [upd_ne n.1.symm]; exact h1, by rw [upd_ne n.2.symm]; exact h2, h3⟩
/-- what stands but for the list at p stands -/
def Kp (p : Addr) (H H' : Hp) : Prop := ∀ a o, (a ≠ p ∨ ∀ l, o ≠ HO.lst l) → H a = some o → H' a = some o
theorem Kp.refl {p : Addr} {H : Hp} : Kp p H H := fun _ _ _ h => h
theorem Kp.trans {p : Addr} {H H1 H2 : Hp} (a : Kp p H H1) (b : Kp p H1 H2) : Kp p H H2 := fun c o n h => b c o n (a c o n h)
theorem Kp.same {p : Addr} {H H' : Hp} (s : Same H H') : Kp p H H' := fun a o _ h => s a o h
theorem Kp.tup {p a : Addr} {H H' : Hp} {xs : List V} (k : Kp p H H') (h : H a = some (.tup xs)) : H' a = some (.tup xs) := k a _ (.inr fun l z => by cases z) h
theorem Kp.lst {p a : Addr} {H H' : Hp} {xs : List V} (k : Kp p H H') (n : a ≠ p) (h : H a = some (.lst xs)) : H' a = some (.lst xs) := k a _ (.inl n) h
theorem Kp.ins {p a C dx : Addr} {H H' : Hp} {fs : List (Str × V)} (k : Kp p H H') (h : H a = some (.ins C dx fs)) : H' a = some (.ins C dx fs) := k a _ (.inr fun l z => by cases z) h
/-- what a call with the pen leaves: all but the pen as it was, a pen again -/
structure Go (q : Pn) (m : Nat) (H H' : Hp) : Prop where
  kp : Kp q.p H H'
  pen : Pen q m H'
theorem Go.refl {q : Pn} {m : Nat} {H : Hp} (h : Pen q m H) : Go q m H H := ⟨Kp.refl, h⟩
theorem Go.trans {q : Pn} {m m' : Nat} {H H1 H2 : Hp} (a : Go q m H H1) (b : Go q m' H1 H2) : Go q m' H H2 := ⟨a.kp.trans b.kp, b.pen⟩
theorem Go.mono {q : Pn} {m m' : Nat} {H H' : Hp} (a : Go q m H H') (l : m ≤ m') : Go q m' H H' := ⟨a.kp, a.pen.mono l⟩
theorem Go.same {q : Pn} {m : Nat} {H H1 H2 : Hp} (a : Go q m H H1) (s : Same H1 H2) : Go q m H H2 := ⟨a.kp.trans (Kp.same s), a.pen.same s⟩
theorem Go.of {q : Pn} {m : Nat} {H H1 : Hp} (h : Pen q m H) (s : Same H H1) : Go q m H H1 := ⟨Kp.same s, h.same s⟩
/-- the pen's own list is stored into -/
theorem Go.at_ {q : Pn} {m m' : Nat} {H : Hp} {l : List V} (h : Pen q m H) (e : Pen q m' (L2.upd H q.p (.lst l))) : Go q m' H (L2.upd H q.p (.lst l)) := ⟨fun a o n k => by
  by_cases z : a = q.p
  · obtain ⟨l', e'⟩ := h.lst
    rcases n with n | n
    · exact absurd z n
    · rw [z, e'] at k
      exact absurd (Option.some.inj k).symm (n l')
  · rw [upd_ne z]
    exact k, e⟩
/-- a list that is new since H is changed -/
theorem Go.mut {q : Pn} {m : Nat} {H H' : Hp} {D : Addr} {o : HO} (h : Pen q m H) (hD : H D = none) {m' : Nat} (g : Go q m' H H') : Go q m' H (L2.upd H' D o) :=
  ⟨fun a u n e => by rw [upd_ne (ne_of_none e hD)]; exact g.kp a u n e, g.pen.upd (h.free hD)⟩
theorem Go.none {q : Pn} {m m' : Nat} {H H' : Hp} {a : Addr} (g : Go q m H H') (h : Pen q m' H) (e : H' a = none) : H a = none := by
  have z := (g.pen.free e).1
  cases k : H a with
  | none => rfl
  | some o =>
    rw [g.kp a o (.inl z) k] at e
    cases e
theorem sz {n : Nat} (h : n ≤ 100000) : n ≤ sizeLine := Nat.le_trans h (by decide)
theorem szr {n : Nat} (h : Nat.ble n 100000 = true := by rfl) : n ≤ sizeLine := sz (Nat.le_of_ble_eq_true h)
theorem szl {n : Nat} (h : n < 100000) : n < sizeLine := Nat.lt_of_lt_of_le h (by decide)

/-! data -/
def ivs (ns : List Int) : List V := ns.map V.int
def dvs (ns : List Int) : List PyData := ns.map PyData.int
theorem dp_ints {K : PySem.W.Frag} {H : Hp} : ∀ ns : List Int, DpAll K H (ivs ns) (dvs ns)
  | [] => .nil
  | n :: ns => .cons (.int n) (dp_ints ns)
theorem lay_ints : ∀ ns : List Int, PyData.canLayAll0 (dvs ns) = true
  | [] => rfl
  | n :: ns => by
    show (PyData.canLay0 (.int n) && PyData.canLayAll0 (dvs ns)) = true
    rw [lay_ints ns]
    rfl
theorem deep_ints : ∀ ns : List Int, PyData.depthAll (dvs ns) = 0
  | [] => rfl
  | n :: ns => by
    show max (PyData.depth (.int n)) (PyData.depthAll (dvs ns)) = 0
    rw [deep_ints ns]
    rfl
theorem eqv_nil (ns : List Int) : PyData.eqv (.list (dvs ns)) (.list []) = ns.isEmpty := by
  cases ns <;> rfl
def rNeNil : R2 := fun x y H Q => ∃ a b ns, x = .ref a ∧ y = .ref b ∧ H a = some (.lst (ivs ns)) ∧ H b = some (.lst []) ∧ Q (.bl (!ns.isEmpty)) H
theorem op_neNil {X : Cx} (hu : X.A.units + 64 < cLine) : OpR X (compareOp .NotEq) rNeNil := op_imp (op_neD hu) fun x y H Q h => by
  obtain ⟨a, b, ns, rfl, rfl, h1, h2, q⟩ := h
  refine ⟨.list (dvs ns), .list [], .lst (SqL.of h1) (dp_ints ns), .lst (SqL.of h2) .nil, ?_, by decide, ?_⟩
  · show (PyData.canLayAll0 (dvs ns) && decide (PyData.depthAll (dvs ns) + 1 ≤ 64)) = true
    rw [lay_ints, deep_ints]
    rfl
  · rw [eqv_nil]
    exact q
end Af

set_option Elab.async false
set_option linter.all false
set_option maxRecDepth 100000
namespace Af
open PySem L2
def top (i : Nat) : Stmt := PySem.Challenge.pw_afterfall_k50_errors_of_stores.main.body.getD i (.Pass ⟨0, 0, 0, 0⟩)
/-- names of the built-ins that the text does not hide -/
structure Txt (mg : Str → Option Value) : Prop where
  len : mg "len" = none
  int : mg "int" = none
  list : mg "list" = none
  tuple : mg "tuple" = none
  range : mg "range" = none
  min : mg "min" = none
  all : mg "all" = none
  enumerate : mg "enumerate" = none
  zip : mg "zip" = none
  isinstance : mg "isinstance" = none
  bool : mg "bool" = none
abbrev s_l_pen : Stmt := top 39
abbrev N_l_pen : List Str := ["_law_script"]
theorem sc_l_pen : FnScope N_l_pen ["_law_script"] (defScope s_l_pen) := ⟨rfl, rfl, rfl, by decide +kernel, rfl, by decide +kernel, by decide +kernel⟩

abbrev s_l_next : Stmt := top 40
abbrev N_l_next : List Str := ["_law_pen_here", "_law_index", "_law_cell_here", "_law_some_here", "_law_more", "_law_top"]
theorem sc_l_next : FnScope N_l_next ["_law_pen_here"] (defScope s_l_next) := ⟨rfl, rfl, rfl, by decide +kernel, rfl, by decide +kernel, by decide +kernel⟩

abbrev s_l_draw : Stmt := top 41
abbrev N_l_draw : List Str := ["_law_pen_here", "_law_under", "_law_digit"]
theorem sc_l_draw : FnScope N_l_draw ["_law_pen_here", "_law_under"] (defScope s_l_draw) := ⟨rfl, rfl, rfl, by decide +kernel, rfl, by decide +kernel, by decide +kernel⟩

def sp_pen (K : PySem.W.Frag) : Sp := fun vs H Q _ => ∃ (a : Addr) (ns : List Int), vs = [.ref a] ∧ SqL K H a (ns.map V.int) ∧ ∀ (q : Pn) H', Same H H' → H q.p = none → H q.c = none → Pen q 0 H' → Q (.ref q.p) H'
def sp_next : Sp := fun vs H Q _ => ∃ (q : Pn) (m : Nat), vs = [.ref q.p] ∧ Pen q m H ∧ m < 1000000000000 ∧ ∀ r H', 0 ≤ r → Go q (m + 1) H H' → Q (.int r) H'
def sp_draw : Sp := fun vs H Q _ => ∃ (q : Pn) (m : Nat) (u : Int), vs = [.ref q.p, .int u] ∧ 0 < u ∧ u < 1073741824 ∧ Pen q m H ∧ m < 1000000000000 ∧ ∀ d H', 0 ≤ d → d < u → Go q (m + 1) H H' → Q (.int d) H'
section
variable {P : Program} {w : World} {K : PySem.W.Frag} {mg : Str → Option Value} {base : Heap}
theorem ok_pen {f : Addr} {fd : FuncData} (F : Fun K "_law_pen" "_law_pen" s_l_pen f fd) (T : Txt mg) : FnOk P w K mg base CX0 1 f fd ["_law_script"] (sp_pen K) := by
  refine F.ok sc_l_pen (fun vs H Q E h => ?_) (fun cdv A outer s H vs Q E hr h => ?_)
  · obtain ⟨a, ns, rfl, _⟩ := h
    rfl
  obtain ⟨a, ns, rfl, hS, k⟩ := h
  refine ⟨_, (pss_one (ps_ret (pe_lst' (pa_cons (pe_callTy call_list' (by rfl) T.list (by decide +kernel) (pa_cons (pe_slice sl_list (pv 0) po_none (po_some pe_int)) pa_nil)) (pa_cons pe_int (pa_cons pe_int pa_nil)))))), ?_⟩
  refine ⟨_, rfl, 60, rfl, a, _, rfl, hS, fun c hc => ?_⟩
  have e1 : cutV (ns.map V.int) none (some 60) = (ns.take 60).map V.int := by
    unfold cutV
    have : HT.sIx (ns.map V.int).length (ns.map V.int).length (some 60) = min 60 (ns.map V.int).length := HT.sIx_nat _ _ 60
    rw [this, HT.sIx_none, List.drop_zero, Nat.sub_zero, ← List.map_take]
    congr 1
    rw [List.length_map]
    rcases Nat.le_total 60 ns.length with z | z
    · rw [Nat.min_eq_left z]
    · rw [Nat.min_eq_right z, List.take_of_length_le z, List.take_of_length_le (Nat.le_refl _)]
  refine ⟨c, _, rfl, .inl upd_same, fun d H1 hd s1 hd1 => ?_⟩
  refine ⟨sz (by show 3 ≤ 100000; decide), fun p H2 hp s2 hp2 => ?_⟩
  refine k ⟨p, d, ns.take 60⟩ H2 ((same_new hc).trans (s1.trans s2)) ?_ ?_ ⟨0, 0, hp2, ?_, ?_, Int.le_refl _, Int.le_refl _, Int.le_refl _⟩
  · exact (same_new hc).free (s1.free hp)
  · exact (same_new hc).free hd
  · rw [← e1]
    exact s2 _ _ hd1
  · intro z
    have z' : d = p := z
    rw [← z', hd1] at hp
    cases hp
theorem mod_in {i n : Int} (h : 0 < n) : 0 ≤ i % n ∧ i % n < n := ⟨Int.emod_nonneg i (by omega), Int.emod_lt_of_pos i h⟩
theorem at_mod {ns : List Int} {i : Int} (h : ns ≠ []) : ∃ z, atI (ivs ns) (i % ((ivs ns).length : Int)) = some (.int z) := by
  have hl : 0 < (ivs ns).length := by
    unfold ivs
    rw [List.length_map]
    exact List.length_pos_iff.mpr h
  obtain ⟨a, b⟩ := mod_in (i := i) (n := ((ivs ns).length : Int)) (by omega)
  obtain ⟨j, hj⟩ := Int.eq_ofNat_of_zero_le a
  rw [hj] at b ⊢
  have hj' : j < ns.length := by
    unfold ivs at b
    rw [List.length_map] at b
    omega
  refine ⟨ns[j], atI_nat ?_⟩
  unfold ivs
  rw [List.getElem?_map, List.getElem?_eq_getElem hj']
  rfl
theorem ok_next {f : Addr} {fd : FuncData} (F : Fun K "_law_next" "_law_next" s_l_next f fd) (T : Txt mg) : FnOk P w K mg base CX0 1 f fd ["_law_pen_here"] sp_next := by
  refine F.ok sc_l_next (fun vs H Q E h => ?_) (fun cdv A outer s H vs Q E hr h => ?_)
  · obtain ⟨a, m, rfl, _⟩ := h
    rfl
  obtain ⟨q, m, rfl, hP, hm, k⟩ := h
  obtain ⟨i, n, h1, h2, hc, hi, him, hn⟩ := hP.ex
  refine ⟨_, (pss_cons (ps_set (i := 1) sc_l_next.nd rfl (Or.inl rfl) (pe_ix ix_seq' (pv 0) pe_int (fun _ _ => rfl)))
    (pss_cons (ps_asg (pe_op op_add (pv 1) pe_int) (pg_sub (pv 0) pe_int set_list))
    (pss_cons (ps_set (i := 2) sc_l_next.nd rfl (Or.inl rfl) (pe_op op_add (pe_op op_mul (pv 1) pe_int) pe_int))
    (pss_cons (ps_cut (ps_if (pt_cmpR (op_neNil hr.units) (pe_ix ix_seq' (pv 0) pe_int (fun _ _ => rfl)) (pe_lst' pa_nil) (nomark _))
      (pss_one (ps_set (i := 2) sc_l_next.nd rfl (Or.inl rfl) (pe_ix ix_seq' (pe_ix ix_seq' (pv 0) pe_int (fun _ _ => rfl)) (pe_op op_mod (pe_callTy call_int1 (by rfl) T.int (by decide +kernel) (pa_cons (pv 1) pa_nil)) (pe_callB call_len' (by rfl) T.len (by decide +kernel) (pa_cons (pe_ix ix_seq' (pv 0) pe_int (fun _ _ => rfl)) pa_nil))) (fun _ _ => rfl))))
      pss_nil))
    (pss_cons (ps_cut (ps_if (PW.pt (pw_and (pt_cmpR op_lt (pv 1) (pe_callB call_len' (by rfl) T.len (by decide +kernel) (pa_cons (pe_ix ix_seq' (pv 0) pe_int (fun _ _ => rfl)) pa_nil)) (nomark _)) (pw_and1 (pt_cmpR op_ge (pv 2) (pe_op op_pow pe_int pe_int) (nomark _)))))
      (pss_one (ps_ret (pv 2)))
      pss_nil))
    (pss_cons (ps_set (i := 3) sc_l_next.nd rfl (Or.inl rfl) (pe_op op_mod (pe_callTy call_int1 (by rfl) T.int (by decide +kernel) (pa_cons (pe_op op_add (pe_op op_add (pe_op op_mod (pe_callTy call_int1 (by rfl) T.int (by decide +kernel) (pa_cons (pv 2) pa_nil)) pe_int) (pe_op op_mul (pv 1) pe_int)) pe_int) pa_nil)) pe_int))
    (pss_cons (ps_set (i := 4) sc_l_next.nd rfl (Or.inl rfl) (pe_op op_mod (pe_callTy call_int1 (by rfl) T.int (by decide +kernel) (pa_cons (pe_op op_add (pe_op op_add (pe_op op_mul (pv 3) (pv 3)) (pe_op op_mul (pv 1) pe_int)) pe_int) pa_nil)) pe_int))
    (pss_cons (ps_set (i := 5) sc_l_next.nd rfl (Or.inl rfl) (pe_op op_mod (pe_callTy call_int1 (by rfl) T.int (by decide +kernel) (pa_cons (pe_op op_add (pe_op op_add (pe_op op_mul (pv 4) (pv 4)) (pv 3)) (pe_op op_mul (pe_op op_mul (pv 1) (pv 1)) pe_int)) pa_nil)) pe_int))
    (pss_one (ps_ret (pe_op op_add (pe_op op_mul (pe_op op_add (pe_op op_mul (pv 5) pe_int) (pv 4)) pe_int) (pv 3)))))))))))), ?_⟩
  -- the count, the cell
  refine ⟨_, rfl, q.p, _, _, _, rfl, rfl, .inl h1, rfl, ?_⟩
  refine ⟨_, rfl, _, _, rfl, rfl, _, rfl, q.p, _, _, _, rfl, rfl, h1, rfl, ?_⟩
  refine ⟨_, rfl, _, _, rfl, rfl, .inr ⟨by decide, by decide⟩, _, _, rfl, rfl, ?_⟩
  have e1 : (upd H q.p (.lst [.ref q.c, .int (i + 1), .int n])) q.p = some (.lst [.ref q.c, .int (i + 1), .int n]) := upd_same
  have g1 : Go q (m + 1) H (upd H q.p (.lst [.ref q.c, .int (i + 1), .int n])) := Go.at_ hP ⟨i + 1, n, upd_same, by rw [upd_ne hc]; exact h2, hc, by omega, by omega, hn⟩
  have e2 : (upd H q.p (.lst [.ref q.c, .int (i + 1), .int n])) q.c = some (.lst (ivs q.ns)) := by rw [upd_ne hc]; exact h2
  refine ⟨fun σ' H' => ∃ cell : Int, σ' = [some (.ref q.p), some (.int i), some (.int cell), none, none, none] ∧ Go q (m + 1) H H' ∧ H' q.p = some (.lst [.ref q.c, .int (i + 1), .int n]) ∧ H' q.c = some (.lst (ivs q.ns)), ?_, ?_⟩
  · refine ⟨_, rfl, q.p, _, _, _, rfl, rfl, .inl e1, rfl, ?_⟩
    refine ⟨sz (by decide), fun e H1 he s1 he1 => ?_⟩
    have k1 := s1 _ _ e1
    have k2 := s1 _ _ e2
    have g2 := g1.same s1
    refine ⟨q.c, e, q.ns, rfl, rfl, k2, he1, _, rfl, ?_⟩
    by_cases hns : q.ns = []
    · have z : (!q.ns.isEmpty) = false := by rw [hns]; rfl
      rw [z]
      exact iteF ⟨_, rfl, g2, k1, k2⟩
    · have z : (!q.ns.isEmpty) = true := by
        cases e : q.ns with
        | nil => exact absurd e hns
        | cons a b => rfl
      rw [z]
      refine iteT ?_
      obtain ⟨v, hv⟩ := at_mod (i := i) hns
      refine ⟨_, rfl, q.p, _, _, _, rfl, rfl, .inl k1, rfl, ?_⟩
      refine ⟨_, rfl, .inl ⟨_, rfl, ?_⟩⟩
      refine ⟨_, rfl, q.p, _, _, _, rfl, rfl, .inl k1, rfl, q.c, _, rfl, .inl k2, ?_⟩
      refine ⟨_, _, rfl, rfl, ?_, q.c, _, _, _, rfl, rfl, .inl k2, hv, ?_⟩
      · unfold ivs
        rw [List.length_map]
        have := List.length_pos_iff.mpr hns
        omega
      · exact ⟨v, rfl, g2, k1, k2⟩
  · rintro σ' H' ⟨cell, rfl, g2, k1, k2⟩
    -- a great cell is taken as it is
    refine ⟨fun σ'' H'' => σ'' = [some (.ref q.p), some (.int i), some (.int cell), none, none, none] ∧ H'' = H', ?_, ?_⟩
    · refine ⟨_, rfl, _, rfl, q.p, _, _, _, rfl, rfl, .inl k1, rfl, q.c, _, rfl, .inl k2, ?_⟩
      refine ⟨_, _, rfl, rfl, _, rfl, ite2 (fun _ => ?_) (fun _ => iteF ⟨rfl, rfl⟩)⟩
      refine ⟨_, rfl, _, _, rfl, rfl, ⟨by decide, by decide, by decide⟩, _, _, rfl, rfl, _, rfl, ite2 (fun q => ?_) (fun _ => ⟨rfl, rfl⟩)⟩
      refine ⟨_, rfl, k cell H' ?_ g2⟩
      have q' : (10 : Int) ^ (18 : Nat) ≤ cell := of_decide_eq_true q
      omega
    · rintro σ'' H'' ⟨rfl, rfl⟩
      have M1 : (0 : Int) < 2147483587 := by decide
      refine ⟨_, rfl, .inl ⟨_, rfl, _, _, rfl, rfl, M1, ?_⟩⟩
      refine ⟨_, rfl, _, _, rfl, rfl, .inr ⟨by decide, by decide⟩, _, _, rfl, rfl, _, _, rfl, rfl, .inl ⟨_, rfl, _, _, rfl, rfl, M1, ?_⟩⟩
      generalize hs : ((cell % 2147483587 + i * 30119 + 89) % 2147483587 : Int) = some1
      have b1 := mod_in (i := cell % 2147483587 + i * 30119 + 89) M1
      rw [hs] at b1
      have M2 : (0 : Int) < 2147483563 := by decide
      refine ⟨_, rfl, _, rfl, _, _, rfl, rfl, .inl ⟨by omega, by omega⟩, _, rfl, _, _, rfl, rfl, .inr ⟨by decide, by decide⟩, _, _, rfl, rfl, _, _, rfl, rfl, .inl ⟨_, rfl, _, _, rfl, rfl, M2, ?_⟩⟩
      generalize hs2 : ((some1 * some1 + i * 70061 + 71) % 2147483563 : Int) = more
      have b2 := mod_in (i := some1 * some1 + i * 70061 + 71) M2
      rw [hs2] at b2
      have M3 : (0 : Int) < 2147483549 := by decide
      refine ⟨_, rfl, _, rfl, _, _, rfl, rfl, .inl ⟨by omega, by omega⟩, _, rfl, _, _, rfl, rfl, _, rfl, _, rfl, _, _, rfl, rfl, .inl ⟨by omega, by omega⟩, _, _, rfl, rfl, .inr ⟨by decide, by decide⟩, _, _, rfl, rfl, .inl ⟨_, rfl, _, _, rfl, rfl, M3, ?_⟩⟩
      generalize hs3 : ((more * more + some1 + i * i * 47) % 2147483549 : Int) = high
      have b3 := mod_in (i := more * more + some1 + i * i * 47) M3
      rw [hs3] at b3
      refine ⟨_, rfl, _, _, rfl, rfl, .inr ⟨by decide, by decide⟩, _, rfl, _, _, rfl, rfl, _, _, rfl, rfl, .inr ⟨by decide, by decide⟩, _, rfl, _, _, rfl, rfl, ?_⟩
      exact k _ H'' (by omega) g2
theorem ok_draw {f : Addr} {fd : FuncData} (F : Fun K "_law_draw" "_law_draw" s_l_draw f fd) (T : Txt mg) (c_l_next : Cal P w K mg base 1 "_law_next" ["_law_pen_here"] sp_next) : FnOk P w K mg base CX0 2 f fd ["_law_pen_here", "_law_under"] sp_draw := by
  refine F.ok sc_l_draw (fun vs H Q E h => ?_) (fun cdv A outer s H vs Q E hr h => ?_)
  · obtain ⟨a, m, u, rfl, _⟩ := h
    rfl
  obtain ⟨q, m, u, rfl, u0, u1, hP, hm, k⟩ := h
  refine ⟨_, (pss_cons (ps_cut (ps_if (pt_cmpR op_lt (pe_ix ix_seq' (pv 0) pe_int (fun _ _ => rfl)) (pv 1) (nomark _))
      (pss_one (ps_asg (pe_cal c_l_next hr (pa_cons (pv 0) pa_nil)) (pg_sub (pv 0) pe_int set_list)))
      pss_nil))
    (pss_cons (ps_set (i := 2) sc_l_draw.nd rfl (Or.inl rfl) (pe_op op_mod (pe_callTy call_int1 (by rfl) T.int (by decide +kernel) (pa_cons (pe_ix ix_seq' (pv 0) pe_int (fun _ _ => rfl)) pa_nil)) (pv 1)))
    (pss_cons (ps_asg (pe_op op_fdiv (pe_ix ix_seq' (pv 0) pe_int (fun _ _ => rfl)) (pv 1)) (pg_sub (pv 0) pe_int set_list))
    (pss_one (ps_ret (pv 2)))))), ?_⟩
  refine ⟨fun σ' H' => ∃ i n, σ' = [some (.ref q.p), some (.int u), none] ∧ Go q (m + 1) H H' ∧ H' q.p = some (.lst [.ref q.c, .int i, .int n]) ∧ H' q.c = some (.lst (ivs q.ns)) ∧ q.c ≠ q.p ∧ 0 ≤ i ∧ i ≤ ((m + 1 : Nat) : Int) ∧ 0 ≤ n, ?_, ?_⟩
  · obtain ⟨i, n, h1, h2, hc, hi, him, hn⟩ := hP.ex
    refine ⟨_, rfl, q.p, _, _, _, rfl, rfl, .inl h1, rfl, _, rfl, _, _, rfl, rfl, _, rfl, ite2 (fun _ => ?_) (fun _ => ?_)⟩
    · refine ⟨_, rfl, q, m, rfl, hP, hm, fun r H1 r0 g1 => ?_⟩
      obtain ⟨i, n, h1, h2, hc, hi, him, hn⟩ := g1.pen.ex
      refine ⟨_, rfl, q.p, _, _, _, rfl, rfl, h1, rfl, i, r, rfl, ?_, upd_same, by rw [upd_ne hc]; exact h2, hc, hi, him, r0⟩
      exact g1.trans (Go.at_ g1.pen ⟨i, r, upd_same, by rw [upd_ne hc]; exact h2, hc, hi, him, r0⟩)
    · exact ⟨i, n, rfl, (Go.refl hP).mono (Nat.le_succ m), h1, h2, hc, hi, by omega, hn⟩
  · rintro σ' H' ⟨i, n, rfl, g1, h1, h2, hc, hi, him, hn⟩
    refine ⟨_, rfl, q.p, _, _, _, rfl, rfl, .inl h1, rfl, .inl ⟨_, rfl, _, rfl, _, _, rfl, rfl, u0, ?_⟩⟩
    refine ⟨_, rfl, q.p, _, _, _, rfl, rfl, .inl h1, rfl, _, rfl, _, _, rfl, rfl, ⟨u0, u1⟩, _, rfl, q.p, _, _, _, rfl, rfl, h1, rfl, ?_⟩
    obtain ⟨b0, b1⟩ := mod_in (i := n) u0
    refine ⟨_, rfl, k _ _ b0 b1 (g1.trans (Go.at_ g1.pen ⟨i, n / u, upd_same, by rw [upd_ne hc]; exact h2, hc, hi, him, Int.ediv_nonneg hn (by omega)⟩))⟩
end
end Af

set_option Elab.async false
set_option linter.all false
set_option maxRecDepth 100000
namespace Af
open PySem L2
theorem same_mut {H H' : Hp} {D : Addr} {o : HO} (s : Same H H') (h : H D = none) : Same H (upd H' D o) := fun a u e => by
  rw [upd_ne (ne_of_none e h)]
  exact s a u e
/-! data: a step, a plan's parts -/
abbrev Stp := Option (Int × List Int)
def StepV (H : Hp) : V → Stp → Prop
  | x, none => x = .non
  | x, some (f, ws) => ∃ a b, x = .ref a ∧ H a = some (.tup [.int f, .ref b]) ∧ H b = some (.tup (ivs ws))
structure Pl where
  cs : List Int
  w : Int
  sts : List Stp
structure PlanV (p : Addr) (H : Hp) (v : V) (pl : Pl) : Prop where
  ex : ∃ a ca sa xs, v = .ref a ∧ H a = some (.tup [.ref ca, .int pl.w, .ref sa]) ∧ H ca = some (.tup (ivs pl.cs)) ∧ sa ≠ p ∧ H sa = some (.lst xs) ∧ Paired (StepV H) xs pl.sts
theorem StepV.kp {p : Addr} {H H' : Hp} (k : Kp p H H') : ∀ {x : V} {st : Stp}, StepV H x st → StepV H' x st
  | x, none, h => h
  | x, some (f, ws), h => by
    obtain ⟨a, b, e, h1, h2⟩ := h
    exact ⟨a, b, e, k.tup h1, k.tup h2⟩
theorem steps_kp {p : Addr} {H H' : Hp} {xs : List V} {sts : List Stp} (k : Kp p H H') (h : Paired (StepV H) xs sts) : Paired (StepV H') xs sts := L2.Paired.mapP h fun _ _ z => z.kp k
theorem steps_same {H H' : Hp} {xs : List V} {sts : List Stp} (k : Same H H') (h : Paired (StepV H) xs sts) : Paired (StepV H') xs sts := steps_kp (p := 0) (Kp.same k) h
theorem PlanV.kp {p : Addr} {H H' : Hp} {v : V} {pl : Pl} (k : Kp p H H') (h : PlanV p H v pl) : PlanV p H' v pl := by
  obtain ⟨a, ca, sa, xs, e, h1, h2, n, h3, h4⟩ := h.ex
  exact ⟨a, ca, sa, xs, e, k.tup h1, k.tup h2, n, k.lst n h3, steps_kp k h4⟩
theorem PlanV.same {p : Addr} {H H' : Hp} {v : V} {pl : Pl} (k : Same H H') (h : PlanV p H v pl) : PlanV p H' v pl := h.kp (Kp.same k)
theorem paired_app {α β : Type} {F : α → β → Prop} : ∀ {a c : List α} {b d : List β}, Paired F a b → Paired F c d → Paired F (a ++ c) (b ++ d)
  | _, _, _, _, .nil, h => h
  | _, _, _, _, .cons r t, h => .cons r (paired_app t h)
theorem paired_take {α β : Type} {F : α → β → Prop} : ∀ {a : List α} {b : List β} (n : Nat), Paired F a b → Paired F (a.take n) (b.take n)
  | _, _, 0, _ => by
    rw [List.take_zero, List.take_zero]
    exact .nil
  | _, _, n + 1, .nil => .nil
  | _, _, n + 1, .cons r t => .cons r (paired_take n t)
theorem paired_drop {α β : Type} {F : α → β → Prop} : ∀ {a : List α} {b : List β} (n : Nat), Paired F a b → Paired F (a.drop n) (b.drop n)
  | _, _, 0, h => h
  | _, _, n + 1, .nil => .nil
  | _, _, n + 1, .cons r t => paired_drop n t
theorem paired_rev {α β : Type} {F : α → β → Prop} : ∀ {a : List α} {b : List β}, Paired F a b → Paired F a.reverse b.reverse
  | _, _, .nil => .nil
  | _, _, .cons r t => by
    rw [List.reverse_cons, List.reverse_cons]
    exact paired_app (paired_rev t) (.cons r .nil)
theorem paired_get {α β : Type} {F : α → β → Prop} : ∀ {a : List α} {b : List β} {i : Nat} {x : α}, Paired F a b → a[i]? = some x → ∃ y, b[i]? = some y ∧ F x y
  | _, _, _, _, .nil, e => by simp at e
  | _, _, 0, x, .cons r _, e => by
    simp at e
    subst e
    exact ⟨_, rfl, r⟩
  | _, _, i + 1, x, .cons _ t, e => by
    obtain ⟨y, h1, h2⟩ := paired_get (i := i) (x := x) t (by simpa using e)
    exact ⟨y, by simpa using h1, h2⟩
theorem paired_len {α β : Type} {F : α → β → Prop} : ∀ {a : List α} {b : List β}, Paired F a b → a.length = b.length
  | _, _, .nil => rfl
  | _, _, .cons _ t => by
    rw [List.length_cons, List.length_cons, paired_len t]
theorem ivs_len (ns : List Int) : (ivs ns).length = ns.length := List.length_map ..
theorem ivs_get {ns : List Int} {i : Nat} (h : i < ns.length) : (ivs ns)[i]? = some (.int ns[i]) := by
  unfold ivs
  rw [List.getElem?_map, List.getElem?_eq_getElem h]
  rfl
/-- a step of a store of n cells -/
def OkS (n : Nat) : Stp → Prop
  | none => True
  | some (f, ws) => 0 ≤ f ∧ ws ≠ [] ∧ f + (ws.length : Int) ≤ (n : Int) ∧ ∀ z ∈ ws, 0 ≤ z ∧ z < 8
def stl : Stp → Nat
  | none => 0
  | some (_, ws) => ws.length
def tot (l : List Stp) : Nat := (l.map stl).sum
theorem tot_nil : tot [] = 0 := rfl
theorem tot_cons (a : Stp) (b : List Stp) : tot (a :: b) = stl a + tot b := by
  unfold tot
  rw [List.map_cons, List.sum_cons]
theorem tot_app (a b : List Stp) : tot (a ++ b) = tot a + tot b := by
  unfold tot
  rw [List.map_append, List.sum_append]
theorem tot_one (a : Stp) : tot [a] = stl a := by
  rw [tot_cons, tot_nil, Nat.add_zero]
theorem tot_take_drop (l : List Stp) (n : Nat) : tot (l.take n) + tot (l.drop n) = tot l := by
  rw [← tot_app, List.take_append_drop]
theorem tot_rev (l : List Stp) : tot l.reverse = tot l := by
  induction l with
  | nil => rfl
  | cons a l ih => rw [List.reverse_cons, tot_app, tot_one, tot_cons, ih, Nat.add_comm]
/-- a plan that the program takes, with room to spare for s steps and t cells of writes -/
structure Good (s t : Nat) (pl : Pl) : Prop where
  c1 : 1 ≤ pl.cs.length
  c24 : pl.cs.length ≤ 24
  cb : ∀ z ∈ pl.cs, 0 ≤ z ∧ z < 8
  w1 : 1 ≤ pl.w
  w24 : pl.w ≤ 24
  st : ∀ x ∈ pl.sts, OkS pl.cs.length x
  sl : pl.sts.length ≤ s
  tl : tot pl.sts ≤ t
theorem Good.mono {s t s' t' : Nat} {pl : Pl} (g : Good s t pl) (h1 : s ≤ s') (h2 : t ≤ t') : Good s' t' pl := ⟨g.c1, g.c24, g.cb, g.w1, g.w24, g.st, Nat.le_trans g.sl h1, Nat.le_trans g.tl h2⟩
/-! a comprehension whose element is a draw -/
theorem lc_draws {te : TE} {j : Nat} {vs : List Nat} {σ : L2.St} {q : Pn} {m n : Nat} {u : Int} {H : Hp} {R : Addr → Hp → Prop} (hP : Pen q m H) (hn : n ≤ 10000)
    (hw : ∀ x, wipe ((wipe σ vs).set j (some x)) vs = wipe σ vs)
    (hte : ∀ (x : V) (H1 : Hp) (Q : VK) (m1 : Nat), Pen q m1 H1 → m1 < m + n → (∀ d H', 0 ≤ d → d < u → Go q (m1 + 1) H1 H' → Q (.int d) H') → te ((wipe σ vs).set j (some x)) H1 Q)
    (k : ∀ D H' ns, H D = none → Go q (m + n) H H' → H' D = some (.lst (ivs ns)) → ns.length = n → (∀ z ∈ ns, 0 ≤ z ∧ z < u) → R D H') :
    ∀ D, H D = none → ∃ W : Nat → Nat → Hp → Prop, (∃ m, W 0 m (upd H D (.lst []))) ∧ ∀ i m H, W i m H →
      ((Itr 0 n).stop i H ∧ R D H) ∨ ((Itr 0 n).go i H ∧ ∃ Nx : Hp → Prop, (∀ H', Nx H' → ∃ m', m' < m ∧ W (i + 1) m' H') ∧ ∀ x H', (Itr 0 n).yld i H x H' → (gName j) x (wipe σ vs) H' fun σ2 H2 => wipe σ2 vs = wipe σ vs ∧ tYes σ2 H2 fun b H3 =>
        if b = true then te σ2 H3 fun y H4 => ∃ acc, H4 D = some (.lst acc) ∧ acc.length < sizeLine ∧ Nx (upd H4 D (.lst (acc ++ [y]))) else Nx H3) := by
  intro D hD
  refine lc_range (lo := 0) (n := n) (g := gName j) (tt := tYes) (te := te) (vs := vs) (σ := σ) (H1 := H) (D := D) (Qd := fun H' => R D H')
    (fun i H' => ∃ ns, Go q (m + i) H H' ∧ H' D = some (.lst (ivs ns)) ∧ ns.length = i ∧ ∀ z ∈ ns, 0 ≤ z ∧ z < u) ?_ ?_ ?_
  · exact ⟨[], (Go.of hP (same_new hD)), upd_same, rfl, fun z hz => by simp at hz⟩
  · rintro i H' hi ⟨ns, g, hL, hl, hb⟩
    refine ⟨hw _, ?_⟩
    refine hte _ _ _ _ g.pen (by omega) fun d H'' d0 d1 g2 => ?_
    have hD2 : H'' D = some (.lst (ivs ns)) := g2.kp.lst (hP.free hD).1 hL
    refine ⟨_, hD2, by rw [ivs_len, hl]; exact szl (by omega), ns ++ [d], ?_, ?_, by rw [List.length_append, hl]; rfl, fun z hz => ?_⟩
    · exact Go.mut hP hD ((g.trans g2).mono (by omega))
    · rw [upd_same]
      unfold ivs
      rw [List.map_append]
      rfl
    · rcases List.mem_append.mp hz with hz | hz
      · exact hb z hz
      · rw [List.mem_singleton.mp hz]
        exact ⟨d0, d1⟩
  · rintro H' ⟨ns, g, hL, hl, hb⟩
    exact k D H' ns hD g hL hl hb
end Af

set_option Elab.async false
set_option linter.all false
set_option maxRecDepth 100000
namespace Af
open PySem L2
/-! things of any kind, and what they are -/
def tyNames : List String := ["NoneType", "bool", "int", "str", "list", "tuple", "dict"]
def clNames : List String := ["int", "bool", "tuple", "list", "dict", "str"]
def isB (n c : String) : Bool := n == c || (n == "bool" && c == "int")
theorem kit_all : ∀ n ∈ tyNames, ∀ c ∈ clNames, kitB n c = some (isB n c) := by decide +kernel
structure Ty (K : PySem.W.Frag) (H : Hp) (x : V) (n : String) : Prop where
  ty : TyOf K H x (.type n)
  mem : n ∈ tyNames
  nf : ∀ a o u, x = .ref a → H a ≠ some (.frz o u)
def rIsi' (K : PySem.W.Frag) : List V → Hp → VK → Prop := fun xs H Q => ∃ x n c, xs = [x, .ty c] ∧ Ty K H x n ∧ c ∈ clNames ∧ Q (.bl (isB n c)) H
theorem call_isi' {X : Cx} : CallR X (.builtin "isinstance") (rIsi' X.K) := call_imp call_isi fun xs H Q h => by
  obtain ⟨x, n, c, e, t, hc, q⟩ := h
  exact ⟨x, .ty c, _, _, _, e, .ty c, .base t.ty, kit_ty (kit_all n t.mem c hc), q⟩
theorem tyof_at {K : PySem.W.Frag} {H : Hp} {a : Addr} {n : String} (t : TyOf K H (.ref a) (.type n)) : ∃ o, H a = some o := by
  cases t with
  | lst e => exact ⟨_, e⟩
  | frz e => exact ⟨_, e⟩
  | tup e => exact ⟨_, e⟩
  | dK e => exact ⟨_, e⟩
  | dT e => exact ⟨_, e⟩
theorem Ty.same {K : PySem.W.Frag} {H H' : Hp} {x : V} {n : String} (s : Same H H') (t : Ty K H x n) : Ty K H' x n := by
  obtain ⟨t, m, nf⟩ := t
  refine ⟨?_, m, fun a o u e z => ?_⟩
  · cases t with
    | non => exact .non
    | bl b => exact .bl b
    | int i => exact .int i
    | str z => exact .str z
    | lst e => exact .lst (s _ _ e)
    | frz e => exact .frz (s _ _ e)
    | tup e => exact .tup (s _ _ e)
    | dK e => exact .dK (s _ _ e)
    | dT e => exact .dT (s _ _ e)
    | flt z => exact .flt z
  · subst e
    obtain ⟨o', ho⟩ := tyof_at t
    rw [s _ _ ho] at z
    exact nf a o u rfl (ho.trans z)
theorem ty_int {K : PySem.W.Frag} {H : Hp} {x : V} {n : String} (t : Ty K H x n) (h : n = "int") : ∃ i, x = .int i := by
  obtain ⟨t, _, nf⟩ := t
  generalize e : Value.type n = v at t
  subst h
  cases t with
  | int i => exact ⟨i, rfl⟩
  | ins => cases e
  | _ => exact absurd (by injection e) (by decide)
theorem ty_tup {K : PySem.W.Frag} {H : Hp} {x : V} {n : String} (t : Ty K H x n) (h : n = "tuple") : ∃ a xs, x = .ref a ∧ H a = some (.tup xs) := by
  obtain ⟨t, _, nf⟩ := t
  generalize e : Value.type n = v at t
  subst h
  cases t with
  | tup z => exact ⟨_, _, rfl, z⟩
  | ins => cases e
  | _ => exact absurd (by injection e) (by decide)
theorem ty_lst {K : PySem.W.Frag} {H : Hp} {x : V} {n : String} (t : Ty K H x n) (h : n = "list") : ∃ a xs, x = .ref a ∧ H a = some (.lst xs) := by
  obtain ⟨t, _, nf⟩ := t
  generalize e : Value.type n = v at t
  subst h
  cases t with
  | lst z => exact ⟨_, _, rfl, z⟩
  | frz z => exact absurd z (nf _ _ _ rfl)
  | ins => cases e
  | _ => exact absurd (by injection e) (by decide)
theorem no_int {K : PySem.W.Frag} {H : Hp} {x : V} {n : String} (t : Ty K H x n) (h : n ≠ "int") : ∀ i, x ≠ .int i := fun i e => by
  subst e
  cases t.ty with
  | int i => exact h rfl
theorem no_tup {K : PySem.W.Frag} {H : Hp} {x : V} {n : String} (t : Ty K H x n) (h : n ≠ "tuple") : ∀ a xs, x = .ref a → H a ≠ some (.tup xs) := fun a xs e z => by
  subst e
  cases t.ty with
  | tup e => exact h rfl
  | lst e => rw [e] at z; cases z
  | frz e => rw [e] at z; cases z
  | dK e => rw [e] at z; cases z
  | dT e => rw [e] at z; cases z
/-- a thing whose parts are things, to a depth -/
def Th (K : PySem.W.Frag) (H : Hp) : Nat → V → Prop
  | 0, x => ∃ n, Ty K H x n
  | d + 1, x => (∃ n, Ty K H x n) ∧ ∀ a xs, x = .ref a → (H a = some (.tup xs) ∨ H a = some (.lst xs)) → xs.length ≤ 100000 ∧ ∀ y ∈ xs, Th K H d y
theorem Th.ty {K : PySem.W.Frag} {H : Hp} : ∀ {d : Nat} {x : V}, Th K H d x → ∃ n, Ty K H x n
  | 0, _, h => h
  | _ + 1, _, h => h.1
theorem ty_at {K : PySem.W.Frag} {H : Hp} {a : Addr} {n : String} (t : Ty K H (.ref a) n) : ∃ o, H a = some o := tyof_at t.ty
theorem Th.same {K : PySem.W.Frag} {H H' : Hp} (s : Same H H') : ∀ {d : Nat} {x : V}, Th K H d x → Th K H' d x
  | 0, _, ⟨n, h⟩ => ⟨n, h.same s⟩
  | d + 1, x, ⟨⟨n, h⟩, k⟩ => ⟨⟨n, h.same s⟩, fun a xs e z => by
    subst e
    obtain ⟨o, ho⟩ := ty_at h
    have e' := s _ _ ho
    have z' : H a = some (.tup xs) ∨ H a = some (.lst xs) := by
      rcases z with z | z
      · rw [e'] at z
        rw [ho]
        exact .inl z
      · rw [e'] at z
        rw [ho]
        exact .inr z
    exact ⟨(k a xs rfl z').1, fun y hy => ((k a xs rfl z').2 y hy).same s⟩⟩
theorem th_int {K : PySem.W.Frag} {H : Hp} {i : Int} : ∀ {d : Nat}, Th K H d (.int i)
  | 0 => ⟨"int", .int i, by decide, fun _ _ _ e => by cases e⟩
  | _ + 1 => ⟨⟨"int", .int i, by decide, fun _ _ _ e => by cases e⟩, fun a xs e => by cases e⟩
theorem th_non {K : PySem.W.Frag} {H : Hp} : ∀ {d : Nat}, Th K H d .non
  | 0 => ⟨"NoneType", .non, by decide, fun _ _ _ e => by cases e⟩
  | _ + 1 => ⟨⟨"NoneType", .non, by decide, fun _ _ _ e => by cases e⟩, fun a xs e => by cases e⟩
theorem th_tup {K : PySem.W.Frag} {H : Hp} {a : Addr} {xs : List V} (e : H a = some (.tup xs)) (hl : xs.length ≤ 100000) : ∀ {d : Nat}, (∀ y ∈ xs, Th K H d y) → Th K H (d + 1) (.ref a) := fun {d} k =>
  ⟨⟨"tuple", .tup e, by decide, fun b o u z h => by cases z; rw [e] at h; cases h⟩, fun b ys z h => by
    cases z
    rcases h with h | h
    · rw [e] at h
      cases h
      exact ⟨hl, k⟩
    · rw [e] at h
      cases h⟩
theorem th_lst {K : PySem.W.Frag} {H : Hp} {a : Addr} {xs : List V} (e : H a = some (.lst xs)) (hl : xs.length ≤ 100000) : ∀ {d : Nat}, (∀ y ∈ xs, Th K H d y) → Th K H (d + 1) (.ref a) := fun {d} k =>
  ⟨⟨"list", .lst e, by decide, fun b o u z h => by cases z; rw [e] at h; cases h⟩, fun b ys z h => by
    cases z
    rcases h with h | h
    · rw [e] at h
      cases h
    · rw [e] at h
      cases h
      exact ⟨hl, k⟩⟩
/-! what the program's questions answer -/
def idxB (m : Int) : V → Bool
  | .int i => decide (0 ≤ i) && decide (i < m)
  | _ => false
def widthB : V → Bool
  | .int i => decide (1 ≤ i) && decide (i ≤ 24)
  | _ => false
def worthsB (H : Hp) : V → Bool
  | .ref a => match H a with
    | some (.tup xs) => !xs.isEmpty && xs.all (idxB 8)
    | _ => false
  | _ => false
def lenB (H : Hp) : V → Nat
  | .ref a => match H a with
    | some (.tup xs) => xs.length
    | some (.lst xs) => xs.length
    | _ => 0
  | _ => 0
def contentB (H : Hp) (x : V) : Bool := worthsB H x && decide (lenB H x ≤ 24)
def addB (m : Int) (n : Nat) : V → Bool
  | .int i => decide (i + (n : Int) ≤ m)
  | _ => false
def stepB (H : Hp) (m : Int) : V → Bool
  | .non => true
  | .ref a => match H a with
    | some (.tup [f, ws]) => idxB m f && worthsB H ws && addB m (lenB H ws) f
    | _ => false
  | _ => false
def stepsB (H : Hp) (m : Int) : V → Bool
  | .ref a => match H a with
    | some (.lst xs) => xs.all (stepB H m)
    | _ => false
  | _ => false
theorem worths_at {H : Hp} {a : Addr} {xs : List V} (h : H a = some (.tup xs)) : worthsB H (.ref a) = (!xs.isEmpty && xs.all (idxB 8)) := by
  unfold worthsB
  simp only [h]
theorem len_at {H : Hp} {a : Addr} {xs : List V} (h : H a = some (.tup xs)) : lenB H (.ref a) = xs.length := by
  unfold lenB
  simp only [h]
theorem worths_not {K : PySem.W.Frag} {H : Hp} {x : V} {n : String} (t : Ty K H x n) (h : n ≠ "tuple") : worthsB H x = false := by
  have z := no_tup t h
  cases x with
  | ref a =>
    cases e : H a with
    | none => simp only [worthsB, e]
    | some o =>
      cases o with
      | tup xs => exact absurd e (z a xs rfl)
      | _ => simp only [worthsB, e]
  | _ => rfl
theorem worths_same {K : PySem.W.Frag} {H H' : Hp} {x : V} {n : String} (t : Ty K H x n) (s : Same H H') : worthsB H' x = worthsB H x := by
  cases x with
  | ref a =>
    obtain ⟨o, ho⟩ := ty_at t
    simp only [worthsB, ho, s _ _ ho]
  | _ => rfl
theorem len_same {K : PySem.W.Frag} {H H' : Hp} {x : V} {n : String} (t : Ty K H x n) (s : Same H H') : lenB H' x = lenB H x := by
  cases x with
  | ref a =>
    obtain ⟨o, ho⟩ := ty_at t
    simp only [lenB, ho, s _ _ ho]
  | _ => rfl
theorem worths_true {H : Hp} {x : V} (h : worthsB H x = true) : ∃ a xs, x = .ref a ∧ H a = some (.tup xs) ∧ xs ≠ [] ∧ xs.all (idxB 8) = true := by
  cases x with
  | ref a =>
    cases e : H a with
    | none => simp only [worthsB, e] at h; cases h
    | some o =>
      cases o with
      | tup xs =>
        rw [worths_at e, Bool.and_eq_true] at h
        refine ⟨a, xs, rfl, e, fun z => ?_, h.2⟩
        rw [z] at h
        exact absurd h.1 (by decide)
      | _ => simp only [worthsB, e] at h; cases h
  | _ => cases h
theorem int_one : ∀ n ∈ tyNames, isB n "int" = true → (!isB n "bool") = decide (n = "int") := by decide +kernel
theorem int_two : ∀ n ∈ tyNames, isB n "int" = false → decide (n = "int") = false := by decide +kernel
theorem tup_not : ∀ n ∈ tyNames, n ≠ "tuple" → isB n "tuple" = false := by decide +kernel
theorem lst_not : ∀ n ∈ tyNames, n ≠ "list" → isB n "list" = false := by decide +kernel
theorem idx_not {m : Int} {x : V} (h : ∀ i, x ≠ .int i) : idxB m x = false := by
  cases x with
  | int i => exact absurd rfl (h i)
  | _ => rfl
theorem width_not {x : V} (h : ∀ i, x ≠ .int i) : widthB x = false := by
  cases x with
  | int i => exact absurd rfl (h i)
  | _ => rfl
theorem ty_is_lst {K : PySem.W.Frag} {H : Hp} {a : Addr} {n : String} {xs : List V} (t : Ty K H (.ref a) n) (e : H a = some (.lst xs)) : n = "list" := by
  obtain ⟨t, m, nf⟩ := t
  cases t with
  | lst z => rfl
  | frz z => exact absurd z (nf _ _ _ rfl)
  | tup z => rw [e] at z; cases z
  | dK z => rw [e] at z; cases z
  | dT z => rw [e] at z; cases z
theorem step_same {K : PySem.W.Frag} {H H' : Hp} {x : V} {m : Int} (th : Th K H 2 x) (s : Same H H') : stepB H' m x = stepB H m x := by
  cases x with
  | ref a =>
    obtain ⟨n, t⟩ := th.ty
    obtain ⟨o, ho⟩ := ty_at t
    have ho' := s _ _ ho
    cases o with
    | tup xs =>
      match xs, ho, ho' with
      | [], ho, ho' => simp only [stepB, ho, ho']
      | [_], ho, ho' => simp only [stepB, ho, ho']
      | [f, ws], ho, ho' =>
        obtain ⟨n2, t2⟩ := ((th.2 a _ rfl (.inl ho)).2 ws (List.mem_cons_of_mem _ List.mem_cons_self)).ty
        simp only [stepB, ho, ho']
        rw [worths_same t2 s, len_same t2 s]
      | _ :: _ :: _ :: _, ho, ho' => simp only [stepB, ho, ho']
    | _ => simp only [stepB, ho, ho']
  | _ => rfl
end Af

set_option Elab.async false
set_option linter.all false
set_option maxRecDepth 100000
namespace Af
open PySem L2
/-! a comprehension over zip, a for over enumerate, lists that stand still -/
theorem lc_zip {K : PySem.W.Frag} {a b : Addr} {xs ys : List V} {g : TG} {tt : TT} {te : TE} {vs : List Nat} {σ : L2.St} {H1 : Hp} {D : Addr} {Qd : Hp → Prop} (hl : xs.length = ys.length) (Pv : Nat → Hp → Prop)
    (h0 : Pv 0 (upd H1 D (.lst [])))
    (hq : ∀ i H, i ≤ xs.length → Pv i H → SqL K H a xs ∧ SqL K H b ys)
    (hs : ∀ (i : Nat) (x y : V) (T : Addr) (H : Hp), xs[i]? = some x → ys[i]? = some y → Pv i H → H T = none → g (.ref T) (wipe σ vs) (upd H T (.tup [x, y])) fun σ2 H2 => wipe σ2 vs = wipe σ vs ∧ tt σ2 H2 fun b H3 =>
      if b = true then te σ2 H3 fun y H4 => ∃ acc, H4 D = some (.lst acc) ∧ acc.length < sizeLine ∧ Pv (i + 1) (upd H4 D (.lst (acc ++ [y]))) else Pv (i + 1) H3)
    (hd : ∀ H, Pv xs.length H → Qd H) :
    ∃ W : Nat → Nat → Hp → Prop, (∃ m, W 0 m (upd H1 D (.lst []))) ∧ ∀ i m H, W i m H →
      ((Itz K a b).stop i H ∧ Qd H) ∨ ((Itz K a b).go i H ∧ ∃ Nx : Hp → Prop, (∀ H', Nx H' → ∃ m', m' < m ∧ W (i + 1) m' H') ∧ ∀ x H', (Itz K a b).yld i H x H' → g x (wipe σ vs) H' fun σ2 H2 => wipe σ2 vs = wipe σ vs ∧ tt σ2 H2 fun b H3 =>
        if b = true then te σ2 H3 fun y H4 => ∃ acc, H4 D = some (.lst acc) ∧ acc.length < sizeLine ∧ Nx (upd H4 D (.lst (acc ++ [y]))) else Nx H3) := by
  refine ⟨fun i m H => m = xs.length - i ∧ i ≤ xs.length ∧ Pv i H, ⟨xs.length, rfl, Nat.zero_le _, h0⟩, fun i m H z => ?_⟩
  obtain ⟨em, hi, p⟩ := z
  subst em
  obtain ⟨q1, q2⟩ := hq i H hi p
  by_cases hlt : i < xs.length
  · have hlt2 : i < ys.length := hl ▸ hlt
    refine .inr ⟨⟨xs, ys, xs[i], ys[i], q1, q2, List.getElem?_eq_getElem hlt, List.getElem?_eq_getElem hlt2⟩, Pv (i + 1), fun H' p' => ⟨xs.length - (i + 1), by omega, rfl, hlt, p'⟩, fun v H' y => ?_⟩
    obtain ⟨T, x, y', e1, hT, e2, hx, hy⟩ := y
    subst e1 e2
    exact hs i x y' T H (hx xs q1) (hy ys q2) p hT
  · have e : i = xs.length := Nat.le_antisymm hi (Nat.le_of_not_lt hlt)
    subst e
    exact .inl ⟨⟨xs, ys, q1, q2, .inl (Nat.le_refl _)⟩, hd H p⟩
theorem for_enum {K : PySem.W.Frag} {a : Addr} {xs : List V} {g : TG} {tb : TS} {D : Ends} {σ : L2.St} {H : Hp} (Pv : Nat → L2.St → Hp → Prop) (h0 : Pv 0 σ H)
    (hq : ∀ i σ H, i ≤ xs.length → Pv i σ H → SqL K H a xs)
    (hs : ∀ (i : Nat) (x : V) (T : Addr) (σ : L2.St) (H : Hp), xs[i]? = some x → Pv i σ H → H T = none → g (.ref T) σ (upd H T (.tup [.int (i : Nat), x])) fun σ2 H2 => tb { D with nx := Pv (i + 1), ct := Pv (i + 1), bk := D.nx } σ2 H2)
    (hd : ∀ σ H, Pv xs.length σ H → D.nx σ H) :
    ∃ W : Nat → Nat → L2.St → Hp → Prop, (∃ m, W 0 m σ H) ∧ ∀ i m σ H, W i m σ H →
      ((Ite K a).stop i H ∧ D.nx σ H) ∨ ((Ite K a).go i H ∧ ∃ N : L2.St → Hp → Prop, (∀ σ' H', N σ' H' → ∃ m', m' < m ∧ W (i + 1) m' σ' H') ∧ ∀ v H', (Ite K a).yld i H v H' → g v σ H' fun σ2 H2 => tb { D with nx := N, ct := N, bk := D.nx } σ2 H2) := by
  refine ⟨fun i m σ H => m = xs.length - i ∧ i ≤ xs.length ∧ Pv i σ H, ⟨xs.length, rfl, Nat.zero_le _, h0⟩, fun i m σ H z => ?_⟩
  obtain ⟨em, hi, p⟩ := z
  subst em
  have q1 := hq i σ H hi p
  by_cases hlt : i < xs.length
  · refine .inr ⟨⟨xs, xs[i], q1, List.getElem?_eq_getElem hlt⟩, Pv (i + 1), fun σ' H' p' => ⟨xs.length - (i + 1), by omega, rfl, hlt, p'⟩, fun v H' y => ?_⟩
    obtain ⟨T, x, e1, hT, e2, hx⟩ := y
    subst e1 e2
    exact hs i x T σ H (hx xs q1) p hT
  · have e : i = xs.length := Nat.le_antisymm hi (Nat.le_of_not_lt hlt)
    subst e
    exact .inl ⟨⟨xs, q1, Nat.le_refl _⟩, hd σ H p⟩
theorem int_at {ns : List Int} {i : Nat} {x : V} (h : (ivs ns)[i]? = some x) : ∃ z, x = .int z := by
  unfold ivs at h
  rw [List.getElem?_map] at h
  cases e : ns[i]? with
  | none =>
    rw [e] at h
    cases h
  | some z =>
    rw [e] at h
    exact ⟨z, (Option.some.inj h).symm⟩
end Af

set_option Elab.async false
set_option linter.all false
set_option maxRecDepth 100000
namespace Af
open PySem PySem.Spec PyProof.Rows L2
/-! steps and plans as data, equal or not -/
def stepD : Stp → PyData
  | none => .none
  | some (f, ws) => .tuple [.int f, .tuple (dvs ws)]
def stepsD : List Stp → List PyData
  | [] => []
  | a :: r => stepD a :: stepsD r
theorem dp_step {K : PySem.W.Frag} {H : Hp} : ∀ {x : V} {st : Stp}, StepV H x st → Dp K H x (stepD st)
  | _, none, h => by
    have e : _ = V.non := h
    subst e
    exact .non
  | _, some (f, ws), h => by
    obtain ⟨a, b, rfl, h1, h2⟩ := h
    exact .tup (SqT.of h1) (.cons (.int f) (.cons (.tup (SqT.of h2) (dp_ints ws)) .nil))
theorem dp_steps {K : PySem.W.Frag} {H : Hp} : ∀ {xs : List V} {sts : List Stp}, Paired (StepV H) xs sts → DpAll K H xs (stepsD sts)
  | _, _, .nil => .nil
  | _, _, .cons h t => .cons (dp_step h) (dp_steps t)
theorem lay_step : ∀ st : Stp, (stepD st).canLay0 = true ∧ (stepD st).depth ≤ 2
  | none => ⟨rfl, by decide⟩
  | some (f, ws) => by
    refine ⟨?_, ?_⟩
    · show (PyData.canLay0 (.int f) && (PyData.canLayAll0 (dvs ws) && true)) = true
      rw [lay_ints]
      rfl
    · show max (PyData.depth (.int f)) (max (PyData.depthAll (dvs ws) + 1) 0) + 1 ≤ 2
      rw [deep_ints]
      show max 0 (max (0 + 1) 0) + 1 ≤ 2
      decide
theorem lay_steps : ∀ sts : List Stp, PyData.canLayAll0 (stepsD sts) = true ∧ PyData.depthAll (stepsD sts) ≤ 2
  | [] => ⟨rfl, by decide⟩
  | a :: r => by
    obtain ⟨h1, h2⟩ := lay_step a
    obtain ⟨h3, h4⟩ := lay_steps r
    refine ⟨?_, ?_⟩
    · show (PyData.canLay0 (stepD a) && PyData.canLayAll0 (stepsD r)) = true
      rw [h1, h3]
      rfl
    · show max (PyData.depth (stepD a)) (PyData.depthAll (stepsD r)) ≤ 2
      omega
theorem sh_ints (ns : List Int) : SeqAt.shaped (.tuple (dvs ns)) = true := by
  show (PyData.canLayAll0 (dvs ns) && decide (PyData.depthAll (dvs ns) + 1 ≤ 64)) = true
  rw [lay_ints, deep_ints]
  rfl
theorem sh_int (n : Int) : SeqAt.shaped (.int n) = true := rfl
theorem sh_steps (sts : List Stp) : SeqAt.shaped (.list (stepsD sts)) = true := by
  obtain ⟨h1, h2⟩ := lay_steps sts
  show (PyData.canLayAll0 (stepsD sts) && decide (PyData.depthAll (stepsD sts) + 1 ≤ 64)) = true
  rw [h1, decide_eq_true (by omega)]
  rfl
def planD (pl : Pl) : PyData := .tuple [.tuple (dvs pl.cs), .int pl.w, .list (stepsD pl.sts)]
theorem sh_plan (pl : Pl) : SeqAt.shaped (planD pl) = true := by
  obtain ⟨h1, h2⟩ := lay_steps pl.sts
  show ((PyData.canLayAll0 (dvs pl.cs) && (true && (PyData.canLayAll0 (stepsD pl.sts) && true))) && decide (max (PyData.depthAll (dvs pl.cs) + 1) (max 0 (max (PyData.depthAll (stepsD pl.sts) + 1) 0)) + 1 ≤ 64)) = true
  rw [h1, lay_ints, deep_ints, decide_eq_true (by omega)]
  rfl
theorem dp_plan {K : PySem.W.Frag} {H : Hp} {p : Addr} {v : V} {pl : Pl} (h : PlanV p H v pl) : Dp K H v (planD pl) := by
  obtain ⟨a, ca, sa, xs, rfl, h1, h2, _, h3, h4⟩ := h.ex
  exact .tup (SqT.of h1) (.cons (.tup (SqT.of h2) (dp_ints _)) (.cons (.int _) (.cons (.lst (SqL.of h3) (dp_steps h4)) .nil)))
/-- what == of two plans is -/
def samePl (a b : Pl) : Bool := PyData.eqv (.tuple (dvs a.cs)) (.tuple (dvs b.cs)) && (PyData.eqv (.int a.w) (.int b.w) && PyData.eqv (.list (stepsD a.sts)) (.list (stepsD b.sts)))
theorem same_planD (a b : Pl) : PyData.eqv (planD a) (planD b) = samePl a b := by
  show (PyData.eqv (.tuple (dvs a.cs)) (.tuple (dvs b.cs)) && (PyData.eqv (.int a.w) (.int b.w) && (PyData.eqv (.list (stepsD a.sts)) (.list (stepsD b.sts)) && true))) = _
  rw [Bool.and_true]
  rfl
mutual
theorem eqv_comm : ∀ a b : PyData, PyData.eqv a b = PyData.eqv b a
  | .none, b => by cases b <;> rfl
  | .bool x, b => by
    cases b with
    | bool y => cases x <;> cases y <;> rfl
    | int j =>
      show ((if x = true then (1 : Int) else 0) == j) = (j == (if x = true then (1 : Int) else 0))
      exact BEq.comm
    | _ => rfl
  | .int x, b => by
    cases b with
    | int y =>
      show (x == y) = (y == x)
      exact BEq.comm
    | bool y =>
      show (x == (if y = true then (1 : Int) else 0)) = ((if y = true then (1 : Int) else 0) == x)
      exact BEq.comm
    | _ => rfl
  | .str x, b => by
    cases b with
    | str y =>
      show (x == y) = (y == x)
      exact BEq.comm
    | _ => rfl
  | .list xs, b => by
    cases b with
    | list ys => exact eqvAll_comm xs ys
    | _ => rfl
  | .tuple xs, b => by
    cases b with
    | tuple ys => exact eqvAll_comm xs ys
    | _ => rfl
  | .dict xs, b => by cases b <;> rfl
theorem eqvAll_comm : ∀ xs ys : List PyData, PyData.eqvAll xs ys = PyData.eqvAll ys xs
  | [], [] => rfl
  | [], _ :: _ => rfl
  | _ :: _, [] => rfl
  | x :: xs, y :: ys => by
    show (PyData.eqv x y && PyData.eqvAll xs ys) = (PyData.eqv y x && PyData.eqvAll ys xs)
    rw [eqv_comm x y, eqvAll_comm xs ys]
end
theorem same_comm (a b : Pl) : samePl a b = samePl b a := by
  rw [← same_planD, ← same_planD]
  exact eqv_comm _ _
theorem same_refl (a : Pl) : samePl a a = true := by
  rw [← same_planD]
  have := sh_plan a
  exact PySem.SeqAt.eqv_refl _ (Bool.and_eq_true_iff.mp this).1
/-! xs.count(None) -/
def rCntN (K : PySem.W.Frag) : V → List V → Hp → VK → Prop := fun x xs H Q => ∃ (p : Addr) (ys : List V) (ds : List PyData), x = .ref p ∧ xs = [.non] ∧ SqL K H p ys ∧ DpAll K H ys ds ∧ PyData.canLayAll0 ds = true ∧ ∀ n : Nat, Q (.int (n : Nat)) H
theorem mt_countN {X : Cx} (hu : X.A.units + 1 < cLine) : MtR X "list.count" (rCntN X.K) := by
  intro pins s σ H x xs v us Q I rx rxs h
  obtain ⟨p, ys, ds, rfl, rfl, hs, hd, hl, q⟩ := h
  cases (show v = Value.ref p from rx)
  obtain ⟨u, rfl, ru⟩ := rxs.one
  cases (show u = Value.none from ru)
  obtain ⟨its, rv, pl, _⟩ := I.list hs
  obtain ⟨as, rs⟩ := Dp.readsAll I ds ys its hd rv
  refine PySem.SeqAt.count_list_data (d := .none) (vs := its.toArray) pl.isList (by simpa using rs) Reads.none (PyData.plainAll_of_canLay0 _ hl) rfl (by show X.A.units + 1 + min _ 0 < cLine; omega) ?_
  exact ⟨.int (ds.countP (fun y => PyData.eqv y .none) : Nat), H, I.tok _, ⟨_, rfl⟩, q _⟩
/-! xs[::-1] -/
theorem pe_up {X : Cx} {e : Expr} {te : TE} (he : PE X e te) : PE X e (fun σ H R => ∃ R0 : VK, te σ H R0 ∧ ∀ x H1, R0 x H1 → R x H1) := ⟨fun pins s σ H R I q => by
  obtain ⟨R0, q1, q2⟩ := q
  refine thn (he.run pins s σ H R0 I q1) fun v s1 z => ?_
  obtain ⟨x, H1, I1, r1, q⟩ := z
  exact ⟨x, H1, I1, r1, q2 _ _ q⟩⟩
theorem pe_rev' {X : Cx} {e : Expr} {te : TE} {k : Nat} {p1 p2 p3 pos : Pos} (he : PE X e te) : PE X (.Subscript e (.Slice none none (some (.UnaryOp .USub (.Constant (.int 1) k p1) p2)) p3) pos) (tRev' te) := by
  have h := pe_revL (p1 := p1) (p2 := p2) (p3 := p3) (pos := pos) (k := k) (pe_up he)
  refine ⟨fun pins s σ H Q I q => h.run pins s σ H Q I ⟨_, q, fun x H1 z => ?_⟩⟩
  obtain ⟨a, xs, e, ha, q⟩ := z
  exact ⟨a, xs, e, SqL.of ha, q.mk⟩
end Af

set_option Elab.async false
set_option linter.all false
set_option maxRecDepth 100000
namespace Af
/-! a write broken into pieces: cell by cell (as the law does it), and by the cuts (as the program does it) -/
def spl (w : Int) : Int → List Int → Int → List Int → List (Int × List Int)
  | st, acc, _, [] => [(st, acc)]
  | st, acc, pos, x :: r => if acc ≠ [] ∧ pos % w = 0 then (st, acc) :: spl w pos [x] (pos + 1) r else spl w st (acc ++ [x]) (pos + 1) r
/-- the cuts among n cells from pos on -/
def cutL (w : Int) : Int → Nat → List Int
  | _, 0 => []
  | pos, n + 1 => if pos % w = 0 then pos :: cutL w (pos + 1) n else cutL w (pos + 1) n
/-- the part from s to e of the worths that begin at the cell f -/
def part (f : Int) (W : List Int) (s e : Int) : List Int := (W.drop (s - f).toNat).take ((e - f).toNat - (s - f).toNat)
def byCuts (f : Int) (W : List Int) : Int → List Int → Int → List (Int × List Int)
  | s, [], e => [(s, part f W s e)]
  | s, c :: cs, e => (s, part f W s c) :: byCuts f W c cs e
theorem zip_cuts (f : Int) (W : List Int) : ∀ (s : Int) (cs : List Int) (e : Int), ((s :: cs).zip (cs ++ [e])).map (fun p => (p.1, part f W p.1 p.2)) = byCuts f W s cs e
  | s, [], e => rfl
  | s, c :: cs, e => by
    show (s, part f W s c) :: ((c :: cs).zip (cs ++ [e])).map (fun p => (p.1, part f W p.1 p.2)) = (s, part f W s c) :: byCuts f W c cs e
    rw [zip_cuts f W c cs e]
theorem part_mid {f : Int} {pre acc r : List Int} {s e : Int} (hs : s = f + (pre.length : Int)) (he : e = s + (acc.length : Int)) : part f (pre ++ (acc ++ r)) s e = acc := by
  have e1 : (s - f).toNat = pre.length := by omega
  have e2 : (e - f).toNat - (s - f).toNat = acc.length := by omega
  unfold part
  rw [e2, e1, List.drop_left, List.take_left]
theorem spl_cuts {w f : Int} : ∀ (r pre acc : List Int) (st pos : Int), acc ≠ [] → st = f + (pre.length : Int) → pos = st + (acc.length : Int) →
    spl w st acc pos r = byCuts f (pre ++ (acc ++ r)) st (cutL w pos r.length) (pos + (r.length : Int))
  | [], pre, acc, st, pos, ne, hs, hp => by
    show [(st, acc)] = [(st, part f (pre ++ (acc ++ [])) st (pos + 0))]
    rw [part_mid hs (by omega)]
  | x :: r, pre, acc, st, pos, ne, hs, hp => by
    have le : (((x :: r).length : Nat) : Int) = (r.length : Int) + 1 := by rw [List.length_cons]; rfl
    by_cases c : pos % w = 0
    · have ih := spl_cuts (w := w) (f := f) r (pre ++ acc) [x] pos (pos + 1) (by simp) (by rw [List.length_append]; omega) (by show pos + 1 = pos + ((1 : Nat) : Int); omega)
      have e : (pre ++ acc) ++ ([x] ++ r) = pre ++ (acc ++ (x :: r)) := by simp
      rw [e] at ih
      show (if acc ≠ [] ∧ pos % w = 0 then (st, acc) :: spl w pos [x] (pos + 1) r else spl w st (acc ++ [x]) (pos + 1) r) = byCuts f (pre ++ (acc ++ (x :: r))) st (if pos % w = 0 then pos :: cutL w (pos + 1) r.length else cutL w (pos + 1) r.length) _
      rw [if_pos ⟨ne, c⟩, if_pos c, ih, le, show pos + ((r.length : Int) + 1) = pos + 1 + (r.length : Int) by omega]
      show _ = (st, part f (pre ++ (acc ++ (x :: r))) st pos) :: _
      rw [part_mid hs hp]
    · have ih := spl_cuts (w := w) r pre (acc ++ [x]) st (pos + 1) (by simp) hs (by rw [List.length_append]; show pos + 1 = st + ((acc.length + 1 : Nat) : Int); omega)
      have e : pre ++ ((acc ++ [x]) ++ r) = pre ++ (acc ++ (x :: r)) := by simp
      rw [e] at ih
      show (if acc ≠ [] ∧ pos % w = 0 then (st, acc) :: spl w pos [x] (pos + 1) r else spl w st (acc ++ [x]) (pos + 1) r) = byCuts f (pre ++ (acc ++ (x :: r))) st (if pos % w = 0 then pos :: cutL w (pos + 1) r.length else cutL w (pos + 1) r.length) _
      rw [if_neg (fun z => c z.2), if_neg c, ih, le, show pos + ((r.length : Int) + 1) = pos + 1 + (r.length : Int) by omega]
/-- both ways lead to the same pieces -/
theorem pieces_same {w f : Int} {ws : List Int} (ne : ws ≠ []) : spl w f [] f ws = byCuts f ws f (cutL w (f + 1) (ws.length - 1)) (f + (ws.length : Int)) := by
  cases ws with
  | nil => exact absurd rfl ne
  | cons x r =>
    have h := spl_cuts (w := w) (f := f) r [] [x] f (f + 1) (by simp) (by show f = f + ((0 : Nat) : Int); omega) (by show f + 1 = f + ((1 : Nat) : Int); omega)
    show (if ([] : List Int) ≠ [] ∧ f % w = 0 then _ else spl w f ([] ++ [x]) (f + 1) r) = _
    rw [if_neg (fun z => z.1 rfl)]
    have e : (((x :: r).length : Nat) : Int) = (r.length : Int) + 1 := by rw [List.length_cons]; rfl
    rw [e, show f + ((r.length : Int) + 1) = f + 1 + (r.length : Int) by omega]
    exact h
end Af

set_option Elab.async false
set_option linter.all false
set_option maxRecDepth 100000
namespace Af
open PySem L2
/-- a drawn plan whose list of steps is neither the pen's nor the one at l -/
structure PlanL (p l : Addr) (H : Hp) (v : V) (pl : Pl) : Prop where
  ex : ∃ a ca sa xs, v = .ref a ∧ H a = some (.tup [.ref ca, .int pl.w, .ref sa]) ∧ H ca = some (.tup (ivs pl.cs)) ∧ sa ≠ p ∧ sa ≠ l ∧ H sa = some (.lst xs) ∧ Paired (StepV H) xs pl.sts
theorem PlanL.v {p l : Addr} {H : Hp} {v : V} {pl : Pl} (h : PlanL p l H v pl) : PlanV p H v pl := by
  obtain ⟨a, ca, sa, xs, e, h1, h2, n, _, h3, h4⟩ := h.ex
  exact ⟨a, ca, sa, xs, e, h1, h2, n, h3, h4⟩
theorem PlanV.toL {p l : Addr} {H H' : Hp} {v : V} {pl : Pl} (h : PlanV p H v pl) (n : H l = none) (s : Same H H') : PlanL p l H' v pl := by
  obtain ⟨a, ca, sa, xs, e, h1, h2, np, h3, h4⟩ := h.ex
  exact ⟨a, ca, sa, xs, e, s _ _ h1, s _ _ h2, np, ne_of_none h3 n, s _ _ h3, steps_same s h4⟩
theorem PlanL.same {p l : Addr} {H H' : Hp} {v : V} {pl : Pl} (h : PlanL p l H v pl) (s : Same H H') : PlanL p l H' v pl := by
  obtain ⟨a, ca, sa, xs, e, h1, h2, np, nl, h3, h4⟩ := h.ex
  exact ⟨a, ca, sa, xs, e, s _ _ h1, s _ _ h2, np, nl, s _ _ h3, steps_same s h4⟩
theorem kp_upd {l : Addr} {H : Hp} {ys zs : List V} (e : H l = some (.lst ys)) : Kp l H (L2.upd H l (.lst zs)) := fun a o n k => by
  by_cases z : a = l
  · rcases n with n | n
    · exact absurd z n
    · rw [z, e] at k
      exact absurd (Option.some.inj k).symm (n ys)
  · rw [upd_ne z]
    exact k
theorem PlanL.upd {p l : Addr} {H : Hp} {v : V} {pl : Pl} {ys zs : List V} (h : PlanL p l H v pl) (e : H l = some (.lst ys)) : PlanL p l (L2.upd H l (.lst zs)) v pl := by
  have k := kp_upd (zs := zs) e
  obtain ⟨a, ca, sa, xs, e, h1, h2, np, nl, h3, h4⟩ := h.ex
  exact ⟨a, ca, sa, xs, e, k.tup h1, k.tup h2, np, nl, k.lst nl h3, steps_kp k h4⟩
/-- a list of plans that the program takes -/
def PlansL (p l : Addr) (H : Hp) (vs : List V) : Prop := ∀ v ∈ vs, ∃ pl, PlanL p l H v pl ∧ Good 40 40 pl
def Plans (p : Addr) (H : Hp) (vs : List V) : Prop := ∀ v ∈ vs, ∃ pl, PlanV p H v pl ∧ Good 40 40 pl
theorem Plans.toL {p l : Addr} {H H' : Hp} {vs : List V} (h : Plans p H vs) (n : H l = none) (s : Same H H') : PlansL p l H' vs := fun v hv => by
  obtain ⟨pl, h1, h2⟩ := h v hv
  exact ⟨pl, h1.toL n s, h2⟩
theorem PlansL.v {p l : Addr} {H : Hp} {vs : List V} (h : PlansL p l H vs) : Plans p H vs := fun v hv => by
  obtain ⟨pl, h1, h2⟩ := h v hv
  exact ⟨pl, h1.v, h2⟩
theorem PlansL.same {p l : Addr} {H H' : Hp} {vs : List V} (h : PlansL p l H vs) (s : Same H H') : PlansL p l H' vs := fun v hv => by
  obtain ⟨pl, h1, h2⟩ := h v hv
  exact ⟨pl, h1.same s, h2⟩
theorem PlansL.upd {p l : Addr} {H : Hp} {vs ys zs : List V} (h : PlansL p l H vs) (e : H l = some (.lst ys)) : PlansL p l (L2.upd H l (.lst zs)) vs := fun v hv => by
  obtain ⟨pl, h1, h2⟩ := h v hv
  exact ⟨pl, h1.upd e, h2⟩
theorem PlansL.app {p l : Addr} {H : Hp} {vs us : List V} (h : PlansL p l H vs) (k : PlansL p l H us) : PlansL p l H (vs ++ us) := fun v hv => by
  rcases List.mem_append.mp hv with hv | hv
  · exact h v hv
  · exact k v hv
theorem PlansL.one {p l : Addr} {H : Hp} {v : V} {pl : Pl} (h : PlanL p l H v pl) (g : Good 40 40 pl) : PlansL p l H [v] := fun u hu => by
  rw [List.mem_singleton.mp hu]
  exact ⟨pl, h, g⟩
theorem Plans.nil {p : Addr} {H : Hp} : Plans p H [] := fun v hv => by simp at hv
theorem Plans.app {p : Addr} {H : Hp} {vs us : List V} (h : Plans p H vs) (k : Plans p H us) : Plans p H (vs ++ us) := fun v hv => by
  rcases List.mem_append.mp hv with hv | hv
  · exact h v hv
  · exact k v hv
theorem Plans.cons {p : Addr} {H : Hp} {v : V} {vs : List V} {pl : Pl} (h : PlanV p H v pl) (g : Good 40 40 pl) (k : Plans p H vs) : Plans p H (v :: vs) := fun u hu => by
  rcases List.mem_cons.mp hu with rfl | hu
  · exact ⟨pl, h, g⟩
  · exact k u hu
theorem Plans.same {p : Addr} {H H' : Hp} {vs : List V} (h : Plans p H vs) (s : Same H H') : Plans p H' vs := fun v hv => by
  obtain ⟨pl, h1, h2⟩ := h v hv
  exact ⟨pl, h1.same s, h2⟩
/-- a plan changed at one place -/
theorem Good.cells {pl : Pl} {cs : List Int} (g : Good 40 40 pl) (c1 : pl.cs.length ≤ cs.length) (c2 : cs.length ≤ 24) (cb : ∀ z ∈ cs, 0 ≤ z ∧ z < 8) : Good 40 40 ⟨cs, pl.w, pl.sts⟩ := by
  refine ⟨Nat.le_trans g.c1 c1, c2, cb, g.w1, g.w24, fun x hx => ?_, g.sl, g.tl⟩
  have o := g.st x hx
  cases x with
  | none => exact True.intro
  | some fw =>
    obtain ⟨f, ws⟩ := fw
    obtain ⟨o1, o2, o3, o4⟩ := o
    exact ⟨o1, o2, by show f + (ws.length : Int) ≤ (cs.length : Int); omega, o4⟩
theorem Good.width {pl : Pl} {w : Int} (g : Good 40 40 pl) (h1 : 1 ≤ w) (h2 : w ≤ 24) : Good 40 40 ⟨pl.cs, w, pl.sts⟩ := ⟨g.c1, g.c24, g.cb, h1, h2, g.st, g.sl, g.tl⟩
theorem Good.steps {s t : Nat} {pl : Pl} {sts : List Stp} (g : Good s t pl) (h : ∀ x ∈ sts, OkS pl.cs.length x) (h1 : sts.length ≤ 40) (h2 : tot sts ≤ 40) : Good 40 40 ⟨pl.cs, pl.w, sts⟩ := ⟨g.c1, g.c24, g.cb, g.w1, g.w24, h, h1, h2⟩
theorem tot_drop_le (l : List Stp) (n : Nat) : tot (l.drop n) ≤ tot l := by
  have := tot_take_drop l n
  omega
/-- one step taken out, another one put in its place -/
theorem steps_at {l : List Stp} {i : Nat} {a b : Stp} {n : Nat} (hi : l[i]? = some a) (hb : stl b = stl a) (ob : OkS n b) (ok : ∀ x ∈ l, OkS n x) :
    (∀ x ∈ (l.take i ++ [b]) ++ l.drop (i + 1), OkS n x) ∧ ((l.take i ++ [b]) ++ l.drop (i + 1)).length = l.length ∧ tot ((l.take i ++ [b]) ++ l.drop (i + 1)) = tot l := by
  have hlt : i < l.length := (List.getElem?_eq_some_iff.mp hi).1
  have e : l.drop i = a :: l.drop (i + 1) := by
    rw [List.drop_eq_getElem_cons hlt]
    congr 1
    rw [List.getElem?_eq_getElem hlt] at hi
    exact Option.some.inj hi
  refine ⟨fun x hx => ?_, ?_, ?_⟩
  · rcases List.mem_append.mp hx with hx | hx
    · rcases List.mem_append.mp hx with hx | hx
      · exact ok x (List.mem_of_mem_take hx)
      · rw [List.mem_singleton.mp hx]
        exact ob
    · exact ok x (List.mem_of_mem_drop hx)
  · rw [List.length_append, List.length_append, List.length_take, List.length_drop]
    show min i l.length + 1 + (l.length - (i + 1)) = l.length
    omega
  · rw [tot_app, tot_app, tot_one, hb]
    have t := tot_take_drop l i
    rw [e, tot_cons] at t
    omega
end Af

set_option Elab.async false
set_option linter.all false
set_option maxRecDepth 100000
namespace Af
open PySem L2
/-- a piece: the step that it is of, its first cell, its worths -/
def PieceE (H : Hp) (ix : Int) (x : V) (p : Int × List Int) : Prop := ∃ t b, x = .ref t ∧ H t = some (.tup [.int ix, .int p.1, .ref b]) ∧ H b = some (.tup (ivs p.2))
theorem PieceE.kp {q : Addr} {H H' : Hp} {ix : Int} {x : V} {p : Int × List Int} (k : Kp q H H') (h : PieceE H ix x p) : PieceE H' ix x p := by
  obtain ⟨t, b, e, h1, h2⟩ := h
  exact ⟨t, b, e, k.tup h1, k.tup h2⟩
theorem pieces_kp {q : Addr} {H H' : Hp} {ix : Int} {xs : List V} {ps : List (Int × List Int)} (k : Kp q H H') (h : Paired (PieceE H ix) xs ps) : Paired (PieceE H' ix) xs ps := L2.Paired.mapP h fun _ _ z => z.kp k
theorem pieces_st {H H' : Hp} {ix : Int} {xs : List V} {ps : List (Int × List Int)} (k : Same H H') (h : Paired (PieceE H ix) xs ps) : Paired (PieceE H' ix) xs ps := pieces_kp (q := 0) (Kp.same k) h
theorem spl_go {w st pos x : Int} {acc r : List Int} (c : ¬ (acc ≠ [] ∧ pos % w = 0)) : spl w st acc pos (x :: r) = spl w st (acc ++ [x]) (pos + 1) r := by
  show (if acc ≠ [] ∧ pos % w = 0 then _ else _) = _
  rw [if_neg c]
theorem spl_cut {w st pos x : Int} {acc r : List Int} (c : acc ≠ [] ∧ pos % w = 0) : spl w st acc pos (x :: r) = (st, acc) :: spl w pos [x] (pos + 1) r := by
  show (if acc ≠ [] ∧ pos % w = 0 then _ else _) = _
  rw [if_pos c]
def sp_split : Sp := fun vs H Q _ => ∃ (ix f sp : Int) (a b : Addr) (ws : List Int), vs = [.int ix, .ref a, .int sp] ∧ H a = some (.tup [.int f, .ref b]) ∧ H b = some (.tup (ivs ws)) ∧ 0 < sp ∧ ws.length ≤ 1000 ∧
  ∀ l H' xs, Same H H' → H l = none → H' l = some (.lst xs) → Paired (PieceE H' ix) xs (spl sp f [] f ws) → Q (.ref l) H'
section
variable {P : Program} {w : World} {K : PySem.W.Frag} {mg : Str → Option Value} {base : Heap}
end
end Af

set_option Elab.async false
set_option linter.all false
set_option maxRecDepth 100000
namespace Af
open PySem L2
theorem cutL_snoc (w : Int) : ∀ (n : Nat) (pos : Int), cutL w pos (n + 1) = cutL w pos n ++ (if (pos + (n : Int)) % w = 0 then [pos + (n : Int)] else [])
  | 0, pos => by
    show (if pos % w = 0 then pos :: cutL w (pos + 1) 0 else cutL w (pos + 1) 0) = [] ++ (if (pos + ((0 : Nat) : Int)) % w = 0 then [pos + ((0 : Nat) : Int)] else [])
    rw [show pos + ((0 : Nat) : Int) = pos by omega]
    rfl
  | n + 1, pos => by
    have ih := cutL_snoc w n (pos + 1)
    have e : pos + 1 + (n : Int) = pos + ((n + 1 : Nat) : Int) := by omega
    rw [e] at ih
    show (if pos % w = 0 then pos :: cutL w (pos + 1) (n + 1) else cutL w (pos + 1) (n + 1)) = (if pos % w = 0 then pos :: cutL w (pos + 1) n else cutL w (pos + 1) n) ++ _
    rw [ih]
    by_cases c : pos % w = 0
    · rw [if_pos c, if_pos c]
      rfl
    · rw [if_neg c, if_neg c]
theorem cutL_in {w : Int} : ∀ {n : Nat} {pos z : Int}, z ∈ cutL w pos n → pos ≤ z ∧ z < pos + (n : Int)
  | 0, pos, z, h => by cases h
  | n + 1, pos, z, h => by
    have k : z = pos ∨ z ∈ cutL w (pos + 1) n := by
      by_cases c : pos % w = 0
      · rw [show cutL w pos (n + 1) = pos :: cutL w (pos + 1) n from if_pos c] at h
        exact List.mem_cons.mp h
      · rw [show cutL w pos (n + 1) = cutL w (pos + 1) n from if_neg c] at h
        exact .inr h
    rcases k with rfl | k
    · omega
    · have := cutL_in k
      omega
theorem cutL_len {w : Int} : ∀ (n : Nat) (pos : Int), (cutL w pos n).length ≤ n
  | 0, _ => Nat.le_refl 0
  | n + 1, pos => by
    have ih := cutL_len (w := w) n (pos + 1)
    by_cases c : pos % w = 0
    · rw [show cutL w pos (n + 1) = pos :: cutL w (pos + 1) n from if_pos c, List.length_cons]
      omega
    · rw [show cutL w pos (n + 1) = cutL w (pos + 1) n from if_neg c]
      omega
/-- the slice of the program is that part -/
theorem slice_part {f s e : Int} {ws : List Int} (h1 : f ≤ s) (h2 : f ≤ e) (h3 : s ≤ f + (ws.length : Int)) (h4 : e ≤ f + (ws.length : Int)) : cutV (ivs ws) (some (s - f)) (some (e - f)) = ivs (part f ws s e) := by
  obtain ⟨a, ha⟩ := Int.eq_ofNat_of_zero_le (show 0 ≤ s - f by omega)
  obtain ⟨b, hb⟩ := Int.eq_ofNat_of_zero_le (show 0 ≤ e - f by omega)
  unfold cutV part
  rw [ha, hb, HT.sIx_nat, HT.sIx_nat, ivs_len, Nat.min_eq_left (by omega), Nat.min_eq_left (by omega)]
  show ((ivs ws).drop a).take (b - a) = ivs ((ws.drop (a : Int).toNat).take ((b : Int).toNat - (a : Int).toNat))
  rw [Int.toNat_natCast, Int.toNat_natCast]
  unfold ivs
  rw [List.map_take, List.map_drop]
end Af

set_option Elab.async false
set_option linter.all false
set_option maxRecDepth 100000
set_option maxHeartbeats 4000000
namespace Af
open PySem L2
abbrev s_broken : Stmt := top 26
abbrev N_broken : List Str := ["width", "index", "write", "first", "worths", "behind", "cuts", "starts", "ends", "cell", "start", "end"]
theorem sc_broken : FnScope N_broken ["width", "index", "write"] (defScope s_broken) := ⟨rfl, rfl, rfl, by decide +kernel, rfl, by decide +kernel, by decide +kernel⟩

theorem paired_take_succ {α β : Type} {F : α → β → Prop} {a : List α} {b : List β} {i : Nat} {y : β} (h : Paired F a (b.take i)) (x : α) (hx : F x y) (hb : b[i]? = some y) : Paired F (a ++ [x]) (b.take (i + 1)) := by
  rw [List.take_add_one, hb]
  exact paired_app h (.cons hx .nil)
def sp_brokenX : Sp := fun vs H Q _ => ∃ (wd ix f : Int) (t b : Addr) (ws : List Int), vs = [.int wd, .int ix, .ref t] ∧ H t = some (.tup [.int f, .ref b]) ∧ H b = some (.tup (ivs ws)) ∧ 0 < wd ∧ 0 ≤ f ∧ f ≤ 1000 ∧ ws ≠ [] ∧ ws.length ≤ 100 ∧
  ∀ l H' xs, Same H H' → H l = none → H' l = some (.lst xs) → Paired (PieceE H' ix) xs (spl wd f [] f ws) → Q (.ref l) H'
section
variable {P : Program} {w : World} {K : PySem.W.Frag} {mg : Str → Option Value} {base : Heap}
theorem ok_brokenX {f : Addr} {fd : FuncData} (F : Fun K "_broken" "_broken" s_broken f fd) (T : Txt mg) : FnOk P w K mg base CX0 1 f fd ["width", "index", "write"] sp_brokenX := by
  refine F.ok sc_broken (fun vs H Q E h => ?_) (fun cdv A outer s H vs Q E hr h => ?_)
  · obtain ⟨_, _, _, _, _, _, rfl, _⟩ := h
    rfl
  obtain ⟨wd, ix, f, t, b, ws, rfl, ht, hb, w0, f0, f1, wn, wl, k⟩ := h
  refine ⟨_, (pss_cons (ps_asg (pv 2) (pg_tup rfl (pgs_cons (pg_name (i := 3) sc_broken.nd rfl (Or.inr rfl)) (pgs_cons (pg_name (i := 4) sc_broken.nd rfl (Or.inr rfl)) pgs_nil))))
    (pss_cons (ps_set (i := 5) sc_broken.nd rfl (Or.inl rfl) (pe_op op_add (pv 3) (pe_callB call_len' (by rfl) T.len (by decide +kernel) (pa_cons (pv 4) pa_nil))))
    (pss_cons (ps_setLc (i := 6) (own := [("cell", 9)]) (g := (gName 9)) rfl sc_broken.nd rfl rfl (sw_true rfl rfl rfl (by decide +kernel)) (pi_range2 rfl T.range (pa_cons (pe_op op_add (pv 3) pe_int) (pa_cons (pv 5) pa_nil))) (blkOk_by (own := [("cell", 9)]) (N := N_broken) (sc := defScope s_broken) (by decide +kernel)) (fun _ _ _ _ _ => pg_name (i := 9) sc_broken.nd rfl (Or.inl rfl)) (fun _ _ _ _ _ => (pts_one (pt_cmpR op_eq (pe_op op_mod (pv 9) (pv 0)) pe_int (nomark _)))) (fun _ _ _ _ _ => (pv 9)))
    (pss_cons (ps_par (i := 7) (j := 8) rfl sc_broken.nd rfl rfl (by decide) rfl rfl (pa_cons (pe_op op_cat' (pe_lst' (pa_cons (pv 3) pa_nil)) (pv 6)) (pa_cons (pe_op op_cat' (pv 6) (pe_lst' (pa_cons (pv 5) pa_nil))) pa_nil)) (by rfl))
    (pss_one (ps_ret (pe_lc (own := [("start", 10), ("end", 11)]) (g := (gTup K 2 (gCons (gName 10) (gCons (gName 11) gNil)))) (tt := tYes) rfl sc_broken.nd (pi_zip rfl T.zip (pa_cons (pv 7) (pa_cons (pv 8) pa_nil))) (blkOk_by (own := [("start", 10), ("end", 11)]) (N := N_broken) (sc := defScope s_broken) (by decide +kernel)) (fun _ _ _ _ _ => pg_tup rfl (pgs_cons (pg_name (i := 10) sc_broken.nd rfl (Or.inl rfl)) (pgs_cons (pg_name (i := 11) sc_broken.nd rfl (Or.inl rfl)) pgs_nil))) (fun _ _ _ _ _ => pts_nil) (fun _ _ _ _ _ => (pe_tup' (pa_cons (pv 1) (pa_cons (pv 10) (pa_cons (pe_slice sl_tup' (pv 4) (po_some (pe_op op_sub (pv 10) (pv 3))) (po_some (pe_op op_sub (pv 11) (pv 3)))) pa_nil)))))))))))), ?_⟩
  refine ⟨_, rfl, t, _, rfl, SqT.of ht, rfl, _, _, rfl, _, _, rfl, rfl, ?_⟩
  refine ⟨_, rfl, _, rfl, b, _, rfl, .inr hb, _, _, rfl, rfl, ?_⟩
  have hln := ivs_len ws
  have hpos : 0 < ws.length := List.length_pos_iff.mpr wn
  refine ⟨_, rfl, _, _, rfl, rfl, _, rfl, f + 1, f + ((ivs ws).length : Int), rfl, ⟨by omega, by omega, by omega, by omega⟩, fun D hD => lc_range (lo := f + 1) (n := (f + ((ivs ws).length : Int) - (f + 1)).toNat) (fun i H' => Same H H' ∧ H' D = some (.lst (ivs (cutL wd (f + 1) i)))) ?_ ?_ ?_⟩
  · exact ⟨same_new hD, upd_same⟩
  · rintro i H' hi ⟨s1, h1⟩
    have sn := cutL_snoc wd i (f + 1)
    have cl := cutL_len (w := wd) i (f + 1)
    refine ⟨rfl, _, rfl, _, rfl, _, _, rfl, rfl, w0, rfl, _, rfl, ite2 (fun y => ?_) (fun y => ⟨s1, ?_⟩)⟩
    · have y' : (f + 1 + (i : Int)) % wd = 0 := V.int.inj (of_decide_eq_true y)
      rw [if_pos y'] at sn
      refine ⟨_, rfl, _, h1, szl (by rw [ivs_len]; omega), same_mut s1 hD, ?_⟩
      rw [upd_same, sn]
      unfold ivs
      rw [List.map_append]
      rfl
    · have y' : ¬ (f + 1 + (i : Int)) % wd = 0 := fun z => y (decide_eq_true (congrArg V.int z))
      rw [if_neg y', List.append_nil] at sn
      rw [sn]
      exact h1
  · rintro H1 ⟨s1, h1⟩
    have en : (f + ((ivs ws).length : Int) - (f + 1)).toNat = ws.length - 1 := by rw [hln]; omega
    rw [en] at h1
    have cin : ∀ z ∈ cutL wd (f + 1) (ws.length - 1), f ≤ z ∧ z ≤ f + (ws.length : Int) := fun z hz => by
      have := cutL_in hz
      omega
    have cl := cutL_len (w := wd) (ws.length - 1) (f + 1)
    have fin := pieces_same (w := wd) (f := f) wn
    rw [← zip_cuts] at fin
    generalize cutL wd (f + 1) (ws.length - 1) = cs at h1 cin cl fin
    refine ⟨_, rfl, szr, fun l2 H2 hl2 s2 h2 => ⟨_, rfl, l2, D, _, _, rfl, rfl, h2, s2 _ _ h1, sz (by show 1 + (ivs cs).length ≤ 100000; rw [ivs_len]; omega), fun sl H3 hsl s3 h3 => ?_⟩⟩
    refine ⟨_, rfl, _, rfl, szr, fun l4 H4 hl4 s4 h4 => ⟨D, l4, _, _, rfl, rfl, s4 _ _ (s3 _ _ (s2 _ _ h1)), h4, sz (by show (ivs cs).length + 1 ≤ 100000; rw [ivs_len]; omega), fun el H5 hel s5 h5 => ⟨_, _, rfl, ?_⟩⟩⟩
    have S := s1.trans (s2.trans (s3.trans (s4.trans s5)))
    have hs5 : H5 sl = some (.lst (ivs (f :: cs))) := s5 _ _ (s4 _ _ h3)
    have he5 : H5 el = some (.lst (ivs (cs ++ [f + (ws.length : Int)]))) := by
      rw [h5, hln]
      unfold ivs
      rw [List.map_append]
      rfl
    have hll : (ivs (f :: cs)).length = (ivs (cs ++ [f + (ws.length : Int)])).length := by
      rw [ivs_len, ivs_len, List.length_append]
      rfl
    refine ⟨_, rfl, _, rfl, sl, el, _, _, rfl, SqL.of hs5, SqL.of he5, fun R hR => lc_zip hll (fun i H' => Same H5 H' ∧ ∃ xs, H' R = some (.lst xs) ∧ xs.length = i ∧ Paired (PieceE H' ix) xs ((((f :: cs).zip (cs ++ [f + (ws.length : Int)])).map (fun p => (p.1, part f ws p.1 p.2))).take i)) ?_ ?_ ?_ ?_⟩
    · exact ⟨same_new hR, [], upd_same, rfl, .nil⟩
    · rintro i H' hi ⟨s6, _⟩
      exact ⟨SqL.of (s6 _ _ hs5), SqL.of (s6 _ _ he5)⟩
    · rintro i x y T' H' hx hy ⟨s6, xs, h6, l6, p6⟩ hT
      have hi : i < (ivs (f :: cs)).length := (List.getElem?_eq_some_iff.mp hx).1
      have hc : (ivs (f :: cs)).length = cs.length + 1 := by rw [ivs_len]; rfl
      have i1 : i < (f :: cs).length := by rw [List.length_cons]; omega
      have i2 : i < (cs ++ [f + (ws.length : Int)]).length := by rw [List.length_append]; show i < cs.length + 1; omega
      rw [ivs_get i1] at hx
      rw [ivs_get i2] at hy
      cases hx
      cases hy
      have m1 : (f :: cs)[i] ∈ f :: cs := List.getElem_mem i1
      have m2 : (cs ++ [f + (ws.length : Int)])[i] ∈ cs ++ [f + (ws.length : Int)] := List.getElem_mem i2
      have zg : (((f :: cs).zip (cs ++ [f + (ws.length : Int)])).map (fun p => (p.1, part f ws p.1 p.2)))[i]? = some ((f :: cs)[i], part f ws (f :: cs)[i] (cs ++ [f + (ws.length : Int)])[i]) := by
        have zz : ((f :: cs).zip (cs ++ [f + (ws.length : Int)]))[i]? = some ((f :: cs)[i], (cs ++ [f + (ws.length : Int)])[i]) := List.getElem?_zip_eq_some.mpr ⟨List.getElem?_eq_getElem i1, List.getElem?_eq_getElem i2⟩
        rw [List.getElem?_map, zz]
        rfl
      generalize (f :: cs)[i] = zx at m1 zg
      generalize (cs ++ [f + (ws.length : Int)])[i] = zy at m2 zg
      have b1 : f ≤ zx ∧ zx ≤ f + (ws.length : Int) := by
        rcases List.mem_cons.mp m1 with rfl | m
        · omega
        · exact cin zx m
      have b2 : f ≤ zy ∧ zy ≤ f + (ws.length : Int) := by
        rcases List.mem_append.mp m2 with m | m
        · exact cin zy m
        · rw [List.mem_singleton.mp m]
          omega
      have s7 : Same H' (upd H' T' (.tup [.int zx, .int zy])) := same_new hT
      have b7 := s7 _ _ (s6 _ _ (S _ _ hb))
      refine ⟨T', _, rfl, SqT.of upd_same, rfl, _, _, rfl, _, _, rfl, rfl, rfl, ?_⟩
      refine ⟨_, rfl, _, rfl, _, rfl, _, rfl, _, rfl, _, _, rfl, rfl, _, rfl, _, rfl, _, rfl, _, _, rfl, rfl, _, rfl, b, _, rfl, b7, fun u H8 s8 h8 => ⟨szr, fun r H9 hr9 s9 h9 => ?_⟩⟩
      have s10 := s7.trans (s8.trans s9)
      have u9 := s9 _ _ h8
      rw [slice_part b1.1 b2.1 b1.2 b2.2] at u9
      have r10 := s10 _ _ h6
      refine ⟨xs, r10, szl (by omega), same_mut (s6.trans s10) hR, _, upd_same, by rw [List.length_append, l6]; rfl, ?_⟩
      have kk := kp_upd (zs := xs ++ [V.ref r]) r10
      exact paired_take_succ (pieces_kp kk (pieces_st s10 p6)) (V.ref r) ⟨r, u, rfl, kk.tup h9, kk.tup u9⟩ zg
    · rintro H' ⟨s6, xs, h6, l6, p6⟩
      refine k R H' xs (S.trans s6) (S.free hR) h6 ?_
      rw [fin]
      have ll : (((f :: cs).zip (cs ++ [f + (ws.length : Int)])).map (fun p => (p.1, part f ws p.1 p.2))).length = (ivs (f :: cs)).length := by
        rw [List.length_map, List.length_zip, List.length_append, ivs_len, List.length_cons]
        show min (cs.length + 1) (cs.length + 1) = cs.length + 1
        omega
      rw [← ll, List.take_length] at p6
      exact p6
end
end Af

set_option Elab.async false
set_option linter.all false
set_option maxRecDepth 100000
set_option maxHeartbeats 4000000
namespace Af
open PySem L2
abbrev s_pieces_of : Stmt := top 25
abbrev N_pieces_of : List Str := ["width", "steps", "pieces", "index", "step"]
theorem sc_pieces_of : FnScope N_pieces_of ["width", "steps"] (defScope s_pieces_of) := ⟨rfl, rfl, rfl, by decide +kernel, rfl, by decide +kernel, by decide +kernel⟩

abbrev s_epochs_of : Stmt := top 27
abbrev N_epochs_of : List Str := ["steps", "epochs", "barriers", "step"]
theorem sc_epochs_of : FnScope N_epochs_of ["steps"] (defScope s_epochs_of) := ⟨rfl, rfl, rfl, by decide +kernel, rfl, by decide +kernel, by decide +kernel⟩

/-- the pieces of one step, of all steps, each with its step's index -/
def oneP (w : Int) (i : Nat) : Stp → List (Int × (Int × List Int))
  | none => []
  | some (f, ws) => (spl w f [] f ws).map fun p => ((i : Int), p)
def allP (w : Int) : Nat → List Stp → List (Int × (Int × List Int))
  | _, [] => []
  | i, s :: r => oneP w i s ++ allP w (i + 1) r
theorem allP_snoc (w : Int) (s : Stp) : ∀ (l : List Stp) (i : Nat), allP w i (l ++ [s]) = allP w i l ++ oneP w (i + l.length) s
  | [], i => by
    show oneP w i s ++ [] = [] ++ oneP w i s
    rw [List.append_nil, List.nil_append]
  | a :: l, i => by
    show oneP w i a ++ allP w (i + 1) (l ++ [s]) = (oneP w i a ++ allP w (i + 1) l) ++ oneP w (i + (l.length + 1)) s
    rw [allP_snoc w s l (i + 1), List.append_assoc, show i + 1 + l.length = i + (l.length + 1) by omega]
theorem allP_take {w : Int} {l : List Stp} {i : Nat} {s : Stp} (h : l[i]? = some s) : allP w 0 (l.take (i + 1)) = allP w 0 (l.take i) ++ oneP w i s := by
  have hi : i < l.length := (List.getElem?_eq_some_iff.mp h).1
  rw [List.take_add_one, h]
  show allP w 0 (l.take i ++ [s]) = _
  rw [allP_snoc, List.length_take, Nat.zero_add, Nat.min_eq_left (Nat.le_of_lt hi)]
def PieceA (H : Hp) (x : V) (p : Int × (Int × List Int)) : Prop := PieceE H p.1 x p.2
theorem pieceA_kp {q : Addr} {H H' : Hp} {xs : List V} {ps : List (Int × (Int × List Int))} (k : Kp q H H') (h : Paired (PieceA H) xs ps) : Paired (PieceA H') xs ps := L2.Paired.mapP h fun _ _ z => PieceE.kp k z
theorem pieceA_st {H H' : Hp} {xs : List V} {ps : List (Int × (Int × List Int))} (k : Same H H') (h : Paired (PieceA H) xs ps) : Paired (PieceA H') xs ps := pieceA_kp (q := 0) (Kp.same k) h
theorem pieceA_of {H : Hp} {ix : Int} : ∀ {xs : List V} {ps : List (Int × List Int)}, Paired (PieceE H ix) xs ps → Paired (PieceA H) xs (ps.map fun p => (ix, p))
  | _, _, .nil => .nil
  | _, _, .cons h t => .cons h (pieceA_of t)
theorem spl_len {w : Int} : ∀ (r acc : List Int) (st pos : Int), (spl w st acc pos r).length ≤ r.length + 1
  | [], _, _, _ => Nat.le_refl _
  | x :: r, acc, st, pos => by
    by_cases c : acc ≠ [] ∧ pos % w = 0
    · rw [spl_cut c, List.length_cons, List.length_cons]
      have := spl_len (w := w) r [x] pos (pos + 1)
      omega
    · rw [spl_go c, List.length_cons]
      have := spl_len (w := w) r (acc ++ [x]) st (pos + 1)
      omega
def sp_partsX : Sp := fun vs H Q _ => ∃ (a ca sa : Addr) (sp : Int) (xs : List V) (sts : List Stp), vs = [.ref a] ∧ H a = some (.tup [.ref ca, .int sp, .ref sa]) ∧ H sa = some (.lst xs) ∧ Paired (StepV H) xs sts ∧ 0 < sp ∧ xs.length ≤ 100 ∧
  (∀ f ws, some (f, ws) ∈ sts → ws.length ≤ 100) ∧ ∀ l H' ys, Same H H' → H l = none → H' l = some (.lst ys) → Paired (PieceA H') ys (allP sp 0 sts) → Q (.ref l) H'
def sp_piecesX : Sp := fun vs H Q _ => ∃ (wd : Int) (a : Addr) (xs : List V) (sts : List Stp), vs = [.int wd, .ref a] ∧ H a = some (.lst xs) ∧ Paired (StepV H) xs sts ∧ 0 < wd ∧ xs.length ≤ 100 ∧ (∀ x ∈ sts, OkS 24 x) ∧
  ∀ l H' ys, Same H H' → H l = none → H' l = some (.lst ys) → Paired (PieceA H') ys (allP wd 0 sts) → Q (.ref l) H'
section
variable {P : Program} {w : World} {K : PySem.W.Frag} {mg : Str → Option Value} {base : Heap}
theorem ok_piecesX {f : Addr} {fd : FuncData} (F : Fun K "_pieces_of" "_pieces_of" s_pieces_of f fd) (T : Txt mg) (c_broken : Cal P w K mg base 1 "_broken" ["width", "index", "write"] sp_brokenX) : FnOk P w K mg base CX0 2 f fd ["width", "steps"] sp_piecesX := by
  refine F.ok sc_pieces_of (fun vs H Q E h => ?_) (fun cdv A outer s H vs Q E hr h => ?_)
  · obtain ⟨_, _, _, _, rfl, _⟩ := h
    rfl
  obtain ⟨wd, a, xs, sts, rfl, ha, hst, w0, xl, ok, k⟩ := h
  refine ⟨_, (pss_cons (ps_set (i := 2) sc_pieces_of.nd rfl (Or.inl rfl) (pe_lst' pa_nil))
    (pss_cons (ps_for PassesOwn.never rfl (pi_enum rfl T.enumerate (pa_cons (pv 1) pa_nil)) (pg_tup rfl (pgs_cons (pg_name (i := 3) sc_pieces_of.nd rfl (Or.inl rfl)) (pgs_cons (pg_name (i := 4) sc_pieces_of.nd rfl (Or.inl rfl)) pgs_nil)))
      (pss_one (ps_if (pt_cmpR op_notN (pv 4) pe_non (nomark _))
      (pss_one (ps_expr (pe_bm PySem.F.plainAttrs_list PySem.F.slot_list_extend PySem.F.type_list_extend mt_extend (pv 2) (pa_cons (pe_cal c_broken hr (pa_cons (pv 0) (pa_cons (pv 3) (pa_cons (pv 4) pa_nil)))) pa_nil))))
      pss_nil)))
    (pss_one (ps_ret (pv 2))))), ?_⟩
  refine ⟨szr, fun pl H1 hpl s1 h1 => ?_⟩
  have hlen := paired_len hst
  refine ⟨_, rfl, a, xs, rfl, SqL.of (s1 _ _ ha), for_enum (K := K) (a := a) (xs := xs) (fun i σ' H' => ∃ ys v1 v2, σ' = [some (.int wd), some (.ref a), some (.ref pl), v1, v2] ∧ Same H H' ∧ H' pl = some (.lst ys) ∧ ys.length ≤ i * 25 ∧ Paired (PieceA H') ys (allP wd 0 (sts.take i))) ?_ ?_ ?_ ?_⟩
  · exact ⟨[], none, none, rfl, s1, h1, Nat.zero_le _, .nil⟩
  · rintro i σ' H' hi ⟨ys, v1, v2, rfl, s2, _⟩
    exact SqL.of (s2 _ _ ha)
  · rintro i x T' σ' H' hx ⟨ys, v1, v2, rfl, s2, h2, l2, p2⟩ hT
    have hi : i < xs.length := (List.getElem?_eq_some_iff.mp hx).1
    obtain ⟨st, hs1, hs2⟩ := paired_get hst hx
    have s3 : Same H' (upd H' T' (.tup [.int (i : Nat), x])) := same_new hT
    have tk := allP_take (w := wd) hs1
    refine ⟨T', _, rfl, SqT.of upd_same, rfl, _, _, rfl, _, _, rfl, rfl, ?_⟩
    cases st with
    | none =>
      have e : x = .non := hs2
      subst e
      exact ⟨_, rfl, rfl, _, rfl, ys, _, _, rfl, s2.trans s3, s3 _ _ h2, by omega, by rw [tk]; show Paired _ ys (_ ++ []); rw [List.append_nil]; exact pieceA_st s3 p2⟩
    | some fw =>
      obtain ⟨f, ws⟩ := fw
      obtain ⟨t, b, e, h3, h4⟩ := hs2
      subst e
      obtain ⟨o1, o2, o3, o4⟩ := ok _ (List.mem_of_getElem? hs1)
      have s4 := s2.trans s3
      refine ⟨_, rfl, rfl, _, rfl, ?_⟩
      refine ⟨_, rfl, .inl ⟨rfl, _, SqL.of (s3 _ _ h2)⟩, ?_⟩
      refine ⟨_, rfl, _, rfl, _, rfl, wd, (i : Int), f, t, b, ws, rfl, s4 _ _ h3, s4 _ _ h4, w0, o1, by omega, o2, by omega, fun l H5 zs s5 hl h5 p5 => ?_⟩
      have h6 := s5 _ _ (s3 _ _ h2)
      have zl : zs.length ≤ 25 := by
        rw [paired_len p5]
        have := spl_len (w := wd) ws [] f f
        omega
      refine ⟨pl, l, ys, zs, rfl, rfl, h6, h5, sz (by omega), ?_⟩
      have kk := kp_upd (zs := ys ++ zs) h6
      refine ⟨ys ++ zs, _, _, rfl, same_mut (s4.trans s5) hpl, upd_same, by rw [List.length_append]; omega, ?_⟩
      rw [tk]
      exact paired_app (pieceA_kp kk (pieceA_st (s3.trans s5) p2)) (pieceA_kp kk (pieceA_of p5))
  · rintro σ' H' ⟨ys, v1, v2, rfl, s2, h2, l2, p2⟩
    rw [hlen, List.take_length] at p2
    exact ⟨_, rfl, k pl H' ys s2 hpl h2 p2⟩
end
end Af

set_option Elab.async false
set_option linter.all false
set_option maxRecDepth 100000
namespace Af
open PySem PySem.Spec PyProof.Rows L2
/-! a def that runs where no repr is under way (repr asks it), and repr itself -/
section
variable {P : Program} {w : World} {K : PySem.W.Frag} {mg : Str → Option Value} {base : Heap}
structure FnG (P : Program) (w : World) (K : PySem.W.Frag) (mg : Str → Option Value) (base : Heap) (k : Nat) (f : Addr) (fd : FuncData) (ps : List Str) (sp : Sp) : Prop where
  many : ∀ (xs : List V) (G : Hp) (R : VK) (E : XK), sp xs G R E → xs.length = ps.length
  goes : ∀ (A : Around) (out : List Env) (s : Shared) (G : Hp) (ar : Args) (us : List Value) (xs : List V) (R : VK) (E : XK), Room k A → A.guards = some [] → Env0 P w K mg base A out s G → BindsTo s fd ar (ps.zip us) → Vals xs us → sp xs G R E →
    codeAny (model P w) A (.call (.ref f) ar) (CR CX0 out P w G s R E) s
theorem okG {x qual : Str} {st : Stmt} {f : Addr} {fd : FuncData} {N ps : List Str} {k : Nat} {sp : Sp} (F : Fun K x qual st f fd) (S : FnScope N ps (defScope st)) (many : ∀ (xs : List V) (G : Hp) (R : VK) (E : XK), sp xs G R E → xs.length = ps.length)
    (body : ∀ (cv : Value) (A : Around) (out : List Env) (s : Shared) (G : Hp) (xs : List V) (R : VK) (E : XK), Room k (A.deeper (envOfC qual (defScope st) s.heap.objs.size f cv)) → A.guards = some [] → sp xs G R E →
      ∃ t, PSs (cxOf CX0 P w K mg base N qual (defScope st) f cv A out s G E).nox (defBody st) t ∧ t { nx := fun _ G' => R .non G', rt := R } (L2.start N xs) G) : FnG P w K mg base (k + 1) f fd ps sp := by
  obtain ⟨oc, od, kV, doc, pm, an, cv, ct, osl, rfl, lk, code⟩ := F.ex
  refine ⟨many, fun A out s G ar us xs R E room grd env bind vals hs => ?_⟩
  have nl := many _ _ _ _ hs
  have KI : K.In s.heap := env.mod.kin.keeps fun b o e => (env.bs b o e).1
  have NL : s.heap.NoLimit := env.mod.nolimit.keeps fun b o e => (env.bs b o e).1
  have kinds : ∀ y ∈ ps.zip us, (defScope st).names.lookup y.1 = some .local ∨ ((defScope st).names.lookup y.1 = some .cell ∧ ((cellsFrom (s.heap.objs.size + 1) (defScope st).names []).lookup y.1).isSome = true) := by
    rintro ⟨n, v⟩ hy
    rcases S.par n (List.of_mem_zip hy).1 with q | q
    · exact .inl q
    · exact .inr ⟨q, PySem.W.cellsFrom_some _ _ _ (.inl q)⟩
  refine codeAny_call_function room.depth (KI _ _ lk) rfl S.co S.gen rfl (PySem.W.codeRec_of KI code) (bind _ _ _ _ (wpAny_newFunctionEnv_cells S.kind kinds fun en he s1 z => ?_))
  subst he
  refine ⟨NL.keeps z.toInCall.keep, codeAny_func ?_⟩
  obtain ⟨t, ht, hq⟩ := body cv A out s G xs R E (room.deeper _) grd hs
  have I := inv_start (CX := CX0) (E := E) (N := N) (cd := cv) (f := f) (qual := qual) S room.hd env nl vals z
  refine wpAny_mono (ht.nox.run [] s1 (L2.start N xs) G _ I hq) (fun fl s' hz => ?_) fun e s' hz => hz
  have last : ∀ {σ : L2.St} {G' : Hp} {v : V} {u : Value}, Inv (cxOf CX0 P w K mg base N qual (defScope st) f cv A out s G E) [] σ G' s' → RelV v u → R v G' → CE out P w G s R u s' := fun {σ G' v u} J rv q => ⟨v, G', J.os, J.bare, J.base, J.hok, rv, q⟩
  match fl, hz with
  | .ret u, ⟨v, σ, G', J, rv, q⟩ => exact last J rv q
  | .next, ⟨σ, G', J, q⟩ => exact last (v := V.non) (u := Value.none) J rfl q
  | .brk, ⟨_, _, _, q⟩ => exact q.elim
  | .cont, ⟨_, _, _, q⟩ => exact q.elim
/-- the law, called behind the top -/
theorem callG {P : Program} {w : World} {K : PySem.W.Frag} {mg mb : Str → Option Value} {k : Nat} {fa a : Addr} {fd : FuncData} {x : Str} {sp : Sp} {s : Shared} {us : List Value} {ns : List Int} (KI : K.In s.heap) (hns : s.heap.Ns mainGlobals mg) (hb : s.heap.Ns builtinsNs mb)
    (hbb : ∀ n : Str, n ≠ "__name__" → mb n = bootBuiltins n) (NL : s.heap.NoLimit) (gn : s.gens = #[]) (ha : s.heap.get? a = some { cls := .type "list", data := .seq us.toArray }) (hi : IntsAre us ns) (short : ns.length ≤ sizeLine) (room : Room k callerA)
    (F : ∀ base : Heap, K.In base → base.Ns mainGlobals mg → FnG P w K mg base k fa fd [x] sp) (bind : ∀ (s : Shared) (u : Value), BindsTo s fd ⟨[u], []⟩ [(x, u)])
    (hs : ∀ G : Hp, Only G → SqL K G a (ns.map V.int) → sp [.ref a] G (fun v _ => v = .bl true) fun _ _ _ => False) :
    codeAny (model P w) callerA (.call (.ref fa) ⟨[.ref a], []⟩) (fun r s' => r = .ok (.ret (.bool true)) ∧ OldK s.heap s'.heap ∧ s'.os = s.os ∧ AllBare s'.gens) s := by
  have vals := vals_ints hi
  have many := hi.length
  have main : ∀ G : Hp, Only G → SqL K G a (ns.map V.int) → HOk P w G s.heap → (∀ b, G b ≠ none → b = a) → (G a ≠ none → K.lookup a = none) →
      codeAny (model P w) callerA (.call (.ref fa) ⟨[.ref a], []⟩) (fun r s' => r = .ok (.ret (.bool true)) ∧ OldK s.heap s'.heap ∧ s'.os = s.os ∧ AllBare s'.gens) s := by
    intro G hO hS ok one free
    have keep : ∀ {b : Addr} {o : Obj}, s.heap.get? b = some o → G b = none → (hidT s.heap G).get? b = some o := fun z n => hidT_get z n
    have dicts : ∀ {b : Addr} {o : Obj} {es : Array DictEntry} {ep : Nat}, s.heap.get? b = some o → o.data = .dict es ep → G b = none := by
      intro b o es ep z dz
      cases q : G b with
      | none => rfl
      | some u =>
        have y := one b (by rw [q]; simp)
        subst y
        rw [ha] at z
        cases z
        have dz' : Data.seq us.toArray _ = Data.dict es ep := dz
        cases dz'
    have spaces : ∀ {b : Addr} {m : Str → Option Value}, s.heap.Ns b m → (hidT s.heap G).Ns b m := by
      rintro b m ⟨o, es, ep, z, dz, r⟩
      exact ⟨o, es, ep, keep z (dicts z dz), dz, r⟩
    have KB : K.In (hidT s.heap G) := by
      intro b o z
      refine keep (KI b o z) ?_
      cases q : G b with
      | none => rfl
      | some u =>
        have y := one b (by rw [q]; simp)
        subst y
        rw [free (by rw [q]; simp)] at z
        cases z
    have env : Env0 P w K mg (hidT s.heap G) callerA [] s G := by
      refine ⟨rfl, ⟨KB, spaces hns, ⟨mb, spaces hb, hbb⟩, ?_⟩, fun b o z => of_hidT z, Nat.le_of_eq (hidT_size _ _), trivial, fun b z => absurd (show b ∈ ([] : List Addr) from z) (by simp), ok, .of_eq gn⟩
      obtain ⟨mc, y1, y2⟩ := NL
      exact ⟨mc, spaces y1, y2⟩
    refine codeAny_mono ((F _ KB (spaces hns)).goes callerA [] s G ⟨[.ref a], []⟩ [.ref a] [.ref a] _ _ room rfl env (bind s (.ref a)) (.cons rfl .nil) (hs G hO hS)) fun r s' z => ?_
    match r, z with
    | .ok (.ret u), z =>
      obtain ⟨v, G', hos, bare, un, ok', rv, q⟩ := z
      have q' : v = .bl true := q
      subst q'
      obtain rfl : u = Value.bool true := rv
      refine ⟨rfl, OldK.of_keep fun b o y => ?_, hos, bare⟩
      cases q : G b with
      | none => exact un.keep b o y q (by intro m; exact absurd (show b ∈ ([] : List Addr) from m) (by simp)) (by simp)
      | some u =>
        rcases hO b with z | ⟨ob, xs, z⟩
        · rw [q] at z
          cases z
        · obtain ⟨y1, _⟩ := ok b _ z
          obtain ⟨y2, _⟩ := ok' b _ (un.frzs b ob _ z)
          rw [y] at y1
          cases y1
          exact y2
    | .error e, z => exact (show False from z).elim
    | .ok .next, z => exact (show False from z).elim
    | .ok .brk, z => exact (show False from z).elim
    | .ok .cont, z => exact (show False from z).elim
  cases hk : K.lookup a with
  | some o =>
    have z := KI a o hk
    rw [ha] at z
    cases z
    exact main (fun _ => none) (fun _ => .inl rfl) (.inr ⟨_, us.toArray, _, hk, rfl, rfl, rfl, by rw [List.size_toArray, many]; exact short, by simpa using vals⟩) (fun b u y => by cases (show (none : Option HO) = some u from y)) (fun b y => absurd rfl y) fun y => absurd rfl y
  | none =>
    have at_ : ∀ {b : Addr} {u : HO}, (if b = a then some (HO.frz { cls := .type "list", data := .seq us.toArray } (.lst (ns.map V.int))) else none) = some u → b = a ∧ u = .frz { cls := .type "list", data := .seq us.toArray } (.lst (ns.map V.int)) := by
      intro b u y
      by_cases q : b = a
      · rw [if_pos q] at y
        exact ⟨q, (Option.some.inj y).symm⟩
      · rw [if_neg q] at y
        cases y
    refine main (fun b => if b = a then some (.frz { cls := .type "list", data := .seq us.toArray } (.lst (ns.map V.int))) else none) (fun b => ?_) (.inl (.inr ⟨{ cls := .type "list", data := .seq us.toArray }, if_pos rfl⟩)) (fun b u y => ?_) (fun b y => ?_) fun _ => hk
    · by_cases q : b = a
      · exact .inr ⟨_, _, if_pos q⟩
      · exact .inl (if_neg q)
    · obtain ⟨rfl, rfl⟩ := at_ y
      exact ⟨ha, by rw [List.length_map]; exact short, us, _, vals, ha⟩
    · by_cases q : b = a
      · exact q
      · exact absurd (if_neg q) y
theorem walkG {l : PySem.W.OpenLaw} {n k : Nat} {q : Program} {loose : List Str} {XP : (Str → Option Value) → Heap → Prop} {YP : World → Heap → Prop} {d : DefRec} {K : Params → PySem.W.Frag} {sp : World → Sp} {x : Str} (hn : l.most = some n) (small : n ≤ sizeLine) (hd : d.params.defaults = []) (room : Room k callerA)
    (hY : ∀ (w : World) (h : Heap), YP w h → (K w.params).In h)
    (F : ∀ (w : World) (mg : Str → Option Value) (fa : Addr) (h : Heap), (K w.params).In h → h.Ns mainGlobals mg → mg d.name = some (.ref fa) →
      ∃ fd : FuncData, (∀ (s : Shared) (u : Value), BindsTo s fd ⟨[u], []⟩ [(x, u)]) ∧ ∀ base : Heap, (K w.params).In base → base.Ns mainGlobals mg → FnG l.prog w (K w.params) mg base k fa fd [x] (sp w))
    (hs : ∀ (w : World) (G : Hp) (a : Addr) (ns : List Int), ns.length ≤ n → Only G → SqL (K w.params) G a (ns.map V.int) → sp w [.ref a] G (fun v _ => v = .bl true) fun _ _ _ => False) :
    PySem.W.WalkO q loose XP YP l.row.toRowW d [] (fun f vs => PySem.call f vs) := by
  refine Att.attach_call hn hd fun w s₀ s₁ mg mb fa o pm cd doc a us ns G Y ho hq hcd hmg hobj hints hlen hg => ?_
  have KI := hY w _ Y
  obtain ⟨fd, hb, hF⟩ := F w mg fa _ KI G.T.g hmg
  exact callG KI G.T.g G.T.b G.T.builtins G.T.nolimit hg hobj hints (Nat.le_trans hlen small) room hF hb fun H hO hS => hs w H a ns hlen hO hS
end
end Af

set_option Elab.async false
set_option linter.all false
set_option maxRecDepth 100000
namespace Af
open PySem PySem.Spec PyProof.Rows L2
/-! data with empty dicts within, and its repr -/
mutual
inductive Dq (K : PySem.W.Frag) (H : Hp) : V → PyData → Prop
  | non : Dq K H .non .none
  | bl (b : Bool) : Dq K H (.bl b) (.bool b)
  | int (i : Int) : Dq K H (.int i) (.int i)
  | str (x : Str) : Dq K H (.str x) (.str x)
  | lst {a : Addr} {xs : List V} {ds : List PyData} : H a = some (.lst xs) → DqAll K H xs ds → Dq K H (.ref a) (.list ds)
  | tup {a : Addr} {xs : List V} {ds : List PyData} : H a = some (.tup xs) → DqAll K H xs ds → Dq K H (.ref a) (.tuple ds)
  | dic {a : Addr} : H a = some (.dK []) → Dq K H (.ref a) (.dict [])
inductive DqAll (K : PySem.W.Frag) (H : Hp) : List V → List PyData → Prop
  | nil : DqAll K H [] []
  | cons {v : V} {vs : List V} {d : PyData} {ds : List PyData} : Dq K H v d → DqAll K H vs ds → DqAll K H (v :: vs) (d :: ds)
end
section
variable {X : Cx} {pins : List (Addr × Obj)} {σ : L2.St} {H : Hp} {s : Shared}
mutual
/-- such data is read, and shown whatever calls are under way -/
theorem Dq.sees (I : Inv X pins σ H s) : ∀ (d : PyData) (v : V) (u : Value), Dq X.K H v d → RelV v u → d.showable = true → d.shown.length ≤ sizeLine →
    ∃ as bs, Reads s.heap u d as ∧ ReadAtMost s.heap d.depth bs ∧ ReprK X.prog X.w bs s.heap d.depth u d.shown
  | .none, _, _, h, r, sh, sz => by
    cases h
    cases r
    obtain ⟨bs, h1, h2⟩ := ReprK.of_reads (prog := X.prog) (w := X.w) (h₀ := s.heap) Reads.none sh (fun z => by cases z) sz
    exact ⟨_, bs, Reads.none, h1, h2⟩
  | .bool b, _, _, h, r, sh, sz => by
    cases h
    cases r
    obtain ⟨bs, h1, h2⟩ := ReprK.of_reads (prog := X.prog) (w := X.w) (h₀ := s.heap) (Reads.bool b) sh (fun z => by cases z) sz
    exact ⟨_, bs, Reads.bool b, h1, h2⟩
  | .int i, _, _, h, r, sh, sz => by
    cases h
    obtain ⟨t, rfl⟩ := r
    obtain ⟨bs, h1, h2⟩ := ReprK.of_reads (prog := X.prog) (w := X.w) (h₀ := s.heap) (Reads.int i t) sh (fun z => by cases z) sz
    exact ⟨_, bs, Reads.int i t, h1, h2⟩
  | .str x, _, _, h, r, sh, sz => by
    cases h
    obtain ⟨t, rfl⟩ := r
    obtain ⟨bs, h1, h2⟩ := ReprK.of_reads (prog := X.prog) (w := X.w) (h₀ := s.heap) (Reads.str x t) sh (fun z => by cases z) sz
    exact ⟨_, bs, Reads.str x t, h1, h2⟩
  | .list ds, _, _, h, r, sh, sz => by
    cases h with
    | @lst a xs _ hs ha =>
      cases r
      obtain ⟨its, rv, ⟨o, n, ho, hc, _, hd⟩, _⟩ := I.list (SqL.of hs)
      have sz' : (listText (PyData.shownAll ds)).length ≤ sizeLine := by simpa only [PyData.shown] using sz
      obtain ⟨as, bs, hr, hb, hk⟩ := Dq.seesAll I ds _ its ha rv (by simpa [PyData.showable] using sh) fun t ht => Nat.le_trans (listText_mem_le ht) sz'
      have rd : Reads s.heap (.ref a) (.list ds) _ := .list ho hc hd hr
      have new : a ∉ bs := not_mem_of_deeper rd (by simp only [PyData.depth]; omega) hb
      refine ⟨_, a :: bs, rd, ReadAtMost.cons rd (by simp only [PyData.depth]; omega) hb, ?_⟩
      simp only [PyData.depth, PyData.shown]
      cases its with
      | nil =>
        cases hr
        simp only [PyData.shownAll, listText_nil]
        exact ReprK.listEmpty ho hc hd
      | cons x l => exact ReprK.list ho hc hd new (by simpa using hk.length_eq) fun i y e => hk.item i y (by simpa using e)
  | .tuple ds, _, _, h, r, sh, sz => by
    cases h with
    | @tup a xs _ hs ha =>
      cases r
      obtain ⟨its, rv, ⟨o, ho, hc, n, hd⟩, _⟩ := I.tuple (SqT.of hs)
      have sz' : (tupleText (PyData.shownAll ds)).length ≤ sizeLine := by simpa only [PyData.shown] using sz
      obtain ⟨as, bs, hr, hb, hk⟩ := Dq.seesAll I ds _ its ha rv (by simpa [PyData.showable] using sh) fun t ht => Nat.le_trans (tupleText_mem_le ht) sz'
      have rd : Reads s.heap (.ref a) (.tuple ds) _ := .tuple ho hc hd hr
      have new : a ∉ bs := not_mem_of_deeper rd (by simp only [PyData.depth]; omega) hb
      refine ⟨_, a :: bs, rd, ReadAtMost.cons rd (by simp only [PyData.depth]; omega) hb, ?_⟩
      simp only [PyData.depth, PyData.shown]
      exact ReprK.tuple ho hc hd new hk
  | .dict kvs, _, _, h, r, sh, sz => by
    cases h with
    | @dic a ha =>
      cases r
      obtain ⟨_, hne, vs, rv, o, es, ep, h1, h2, h3, _, h4, _⟩ := dk_of I.hok ha
      cases rv
      have e : es.toList = [] := by
        cases q : es.toList with
        | nil => rfl
        | cons y l =>
          rw [q] at h4
          cases h4
      have rd : Reads s.heap (.ref a) (.dict []) ([a] ++ []) := Reads.dict (kvs := []) (as := []) (bs := []) h1 h2.1 h3 (by rw [e]; exact .nil) (by rw [e]; exact .nil)
      obtain ⟨bs, h5, h6⟩ := ReprK.of_reads (prog := X.prog) (w := X.w) (h₀ := s.heap) rd sh (fun _ z => by
        have z' : sysModules ∈ [a] := z
        rw [← List.mem_singleton.mp z'] at hne
        exact absurd hne (by simp)) sz
      exact ⟨_, bs, rd, h5, h6⟩
theorem Dq.seesAll (I : Inv X pins σ H s) : ∀ (ds : List PyData) (vs : List V) (us : List Value), DqAll X.K H vs ds → Vals vs us → PyData.showableAll ds = true → (∀ t ∈ PyData.shownAll ds, t.length ≤ sizeLine) →
    ∃ as bs, ReadsAll s.heap us ds as ∧ ReadAtMost s.heap (PyData.depthAll ds) bs ∧ ReprAllK X.prog X.w bs s.heap (PyData.depthAll ds) us (PyData.shownAll ds)
  | [], _, _, h, r, _, _ => by
    cases h
    cases r
    refine ⟨_, [], ReadsAll.nil, ⟨fun b z => (by simp at z), ?_⟩⟩
    simp only [PyData.shownAll]
    exact .nil
  | d :: ds, _, _, h, r, sh, sz => by
    cases h with
    | cons h1 h2 =>
      cases r with
      | cons r1 r2 =>
        have sh' : d.showable = true ∧ PyData.showableAll ds = true := by simpa [PyData.showableAll] using sh
        obtain ⟨a1, b1, q1, m1, k1⟩ := Dq.sees I d _ _ h1 r1 sh'.1 (sz _ (by simp only [PyData.shownAll]; exact List.mem_cons_self))
        obtain ⟨a2, b2, q2, m2, k2⟩ := Dq.seesAll I ds _ _ h2 r2 sh'.2 fun t ht => sz t (by simp only [PyData.shownAll]; exact List.mem_cons_of_mem _ ht)
        refine ⟨_, b1 ++ b2, ReadsAll.cons q1 q2, fun b hb => ?_, ?_⟩
        · simp only [PyData.depthAll]
          rcases List.mem_append.mp hb with hb | hb
          · obtain ⟨d', a', r', y⟩ := m1 b hb
            exact ⟨d', a', r', by omega⟩
          · obtain ⟨d', a', r', y⟩ := m2 b hb
            exact ⟨d', a', r', by omega⟩
        · simp only [PyData.depthAll, PyData.shownAll]
          refine .cons ((k1.more fun b hb => List.mem_append.mpr (.inl hb)).level_le (by omega)) (k2.more_le (fun b hb => List.mem_append.mpr (.inr hb)) (by omega))
end
def rRepr (K : PySem.W.Frag) : List V → Hp → VK → Prop := fun xs H Q => ∃ (a : Addr) (vs : List V) (ds : List PyData), xs = [.ref a] ∧ H a = some (.tup vs) ∧ DqAll K H vs ds ∧ PyData.showableAll ds = true ∧ PyData.depthAll ds ≤ 60 ∧ (PyData.tuple ds).shown.length ≤ sizeLine ∧ Q (.str (PyData.tuple ds).shown) H
/-- repr of a tuple of data -/
theorem call_repr' (hg : X.A.guards = some []) (hu : X.A.units + 64 < cLine) : CallR X (.builtin "repr") (rRepr X.K) := by
  intro pins s σ H xs us Q I r h
  obtain ⟨a, vs, ds, rfl, hs, hd, sh, dp, sz, q⟩ := h
  obtain ⟨u, rfl, ru⟩ := vals1 r
  cases (show u = Value.ref a from ru)
  obtain ⟨its, rv, ⟨o, ho, hc, n, hdd⟩, _⟩ := I.tuple (SqT.of hs)
  have sz' : (tupleText (PyData.shownAll ds)).length ≤ sizeLine := by simpa only [PyData.shown] using sz
  obtain ⟨as, bs, hr, hb, hk⟩ := Dq.seesAll I ds vs its hd rv sh fun t ht => Nat.le_trans (tupleText_mem_le ht) sz'
  have rd : Reads s.heap (.ref a) (.tuple ds) _ := .tuple ho hc hdd hr
  have new : a ∉ bs := not_mem_of_deeper rd (by simp only [PyData.depth]; omega) hb
  refine call_repr_slot (T := "tuple") (by omega) ⟨o, ho, hc⟩ PySem.F.slot_tuple_repr (call_tuple_reprK ho hc hdd new hk hg (fun b _ => Clear.nil b) (by show X.A.units + 1 + (PyData.depthAll ds + 1) < cLine; omega) (fun _ _ e => e) (fun h' u tk keep => ?_) sz')
  refine ⟨_, _, rfl, .str (PyData.tuple ds).shown, H, I.kept keep, ⟨u, ?_⟩, q⟩
  simp only [PyData.shown]
end
end Af

set_option Elab.async false
set_option linter.all false
set_option maxRecDepth 100000
namespace Af
open PySem PySem.Spec PyProof.Rows L2
/-! what the program's questions answer, told of data -/
def idxD (m : Int) : PyData → Bool
  | .int i => decide (0 ≤ i) && decide (i < m)
  | _ => false
def widthD : PyData → Bool
  | .int i => decide (1 ≤ i) && decide (i ≤ 24)
  | _ => false
def worthsD : PyData → Bool
  | .tuple ds => !ds.isEmpty && ds.all (idxD 8)
  | _ => false
def lenD : PyData → Nat
  | .tuple ds => ds.length
  | .list ds => ds.length
  | _ => 0
def contentD (d : PyData) : Bool := worthsD d && decide (lenD d ≤ 24)
def addD (m : Int) (n : Nat) : PyData → Bool
  | .int i => decide (i + (n : Int) ≤ m)
  | _ => false
def stepQ (m : Int) : PyData → Bool
  | .none => true
  | .tuple [f, ws] => idxD m f && worthsD ws && addD m (lenD ws) f
  | _ => false
def stepsQ (m : Int) : PyData → Bool
  | .list ds => ds.all (stepQ m)
  | _ => false
section
variable {K : PySem.W.Frag} {H : Hp}
theorem DqAll.len : ∀ {xs : List V} {ds : List PyData}, DqAll K H xs ds → xs.length = ds.length
  | _, _, .nil => rfl
  | _, _, .cons _ t => by
    rw [List.length_cons, List.length_cons, t.len]
theorem dq_idx {x : V} {d : PyData} (h : Dq K H x d) (m : Int) : idxB m x = idxD m d := by
  cases h <;> rfl
theorem dq_width {x : V} {d : PyData} (h : Dq K H x d) : widthB x = widthD d := by
  cases h <;> rfl
theorem dq_add {x : V} {d : PyData} (h : Dq K H x d) (m : Int) (n : Nat) : addB m n x = addD m n d := by
  cases h <;> rfl
theorem dq_all {m : Int} : ∀ {xs : List V} {ds : List PyData}, DqAll K H xs ds → xs.all (idxB m) = ds.all (idxD m)
  | _, _, .nil => rfl
  | _, _, .cons h t => by
    rw [List.all_cons, List.all_cons, dq_all t, dq_idx h]
theorem dq_empty {xs : List V} {ds : List PyData} (h : DqAll K H xs ds) : xs.isEmpty = ds.isEmpty := by
  cases h <;> rfl
theorem dq_len {x : V} {d : PyData} (h : Dq K H x d) : lenB H x = lenD d := by
  cases h with
  | lst e t => simp only [lenB, e, lenD]; exact t.len
  | tup e t => simp only [lenB, e, lenD]; exact t.len
  | dic e => simp only [lenB, e, lenD]
  | _ => rfl
theorem dq_worths {x : V} {d : PyData} (h : Dq K H x d) : worthsB H x = worthsD d := by
  cases h with
  | lst e t => simp only [worthsB, e, worthsD]
  | tup e t => simp only [worthsB, e, worthsD]; rw [dq_empty t, dq_all t]
  | dic e => simp only [worthsB, e, worthsD]
  | _ => rfl
theorem dq_content {x : V} {d : PyData} (h : Dq K H x d) : contentB H x = contentD d := by
  unfold contentB contentD
  rw [dq_worths h, dq_len h]
theorem dq_step {x : V} {d : PyData} (h : Dq K H x d) (m : Int) : stepB H m x = stepQ m d := by
  cases h with
  | non => rfl
  | lst e t => simp only [stepB, e, stepQ]
  | dic e => simp only [stepB, e, stepQ]
  | tup e t =>
    cases t with
    | nil => simp only [stepB, e, stepQ]
    | cons h1 t =>
      cases t with
      | nil => simp only [stepB, e, stepQ]
      | cons h2 t =>
        cases t with
        | nil =>
          simp only [stepB, e, stepQ]
          rw [dq_idx h1, dq_worths h2, dq_len h2, dq_add h1]
        | cons h3 t => simp only [stepB, e, stepQ]
  | _ => rfl
theorem dq_stepAll {m : Int} : ∀ {xs : List V} {ds : List PyData}, DqAll K H xs ds → xs.all (stepB H m) = ds.all (stepQ m)
  | _, _, .nil => rfl
  | _, _, .cons h t => by
    rw [List.all_cons, List.all_cons, dq_stepAll t, dq_step h]
theorem dq_steps {x : V} {d : PyData} (h : Dq K H x d) (m : Int) : stepsB H m x = stepsQ m d := by
  cases h with
  | lst e t => simp only [stepsB, e, stepsQ]; exact dq_stepAll t
  | tup e t => simp only [stepsB, e, stepsQ]
  | dic e => simp only [stepsB, e, stepsQ]
  | _ => rfl
theorem dq_ty {x : V} {d : PyData} (h : Dq K H x d) : ∃ n, Ty K H x n := by
  cases h with
  | non => exact ⟨_, .non, by decide, fun _ _ _ e => by cases e⟩
  | bl b => exact ⟨_, .bl b, by decide, fun _ _ _ e => by cases e⟩
  | int i => exact ⟨_, .int i, by decide, fun _ _ _ e => by cases e⟩
  | str z => exact ⟨_, .str z, by decide, fun _ _ _ e => by cases e⟩
  | lst e t => exact ⟨_, .lst e, by decide, fun b o u z q => by cases z; rw [e] at q; cases q⟩
  | tup e t => exact ⟨_, .tup e, by decide, fun b o u z q => by cases z; rw [e] at q; cases q⟩
  | dic e => exact ⟨_, .dK e, by decide, fun b o u z q => by cases z; rw [e] at q; cases q⟩
theorem DqAll.mem : ∀ {xs : List V} {ds : List PyData} {y : V}, DqAll K H xs ds → y ∈ xs → ∃ d, d ∈ ds ∧ Dq K H y d
  | _, _, _, .nil, h => by simp at h
  | _, _, y, .cons r t, h => by
    rcases List.mem_cons.mp h with rfl | h
    · exact ⟨_, List.mem_cons_self, r⟩
    · obtain ⟨d, h1, h2⟩ := t.mem h
      exact ⟨d, List.mem_cons_of_mem _ h1, h2⟩
mutual
theorem Dq.same {H' : Hp} (s : Same H H') : ∀ (d : PyData) (x : V), Dq K H x d → Dq K H' x d
  | .none, _, h => by cases h; exact .non
  | .bool _, _, h => by cases h; exact .bl _
  | .int _, _, h => by cases h; exact .int _
  | .str _, _, h => by cases h; exact .str _
  | .list ds, _, h => by
    cases h with
    | lst e t => exact .lst (s _ _ e) (DqAll.same s ds _ t)
  | .tuple ds, _, h => by
    cases h with
    | tup e t => exact .tup (s _ _ e) (DqAll.same s ds _ t)
  | .dict _, _, h => by
    cases h with
    | dic e => exact .dic (s _ _ e)
theorem DqAll.same {H' : Hp} (s : Same H H') : ∀ (ds : List PyData) (xs : List V), DqAll K H xs ds → DqAll K H' xs ds
  | [], _, h => by cases h; exact .nil
  | d :: ds, _, h => by
    cases h with
    | cons h1 h2 => exact .cons (Dq.same s d _ h1) (DqAll.same s ds _ h2)
end
/-! small data: to a depth, lists and tuples of at most 45 parts, short texts -/
def flatD : PyData → Bool
  | .none | .bool _ => true
  | .int i => decide (i.natAbs.log2 < 1920) && decide ((toString i : Str).length ≤ 45)
  | .str x => decide ((reprText x).length ≤ 45)
  | .dict kvs => kvs.isEmpty
  | _ => false
def Sm : Nat → PyData → Prop
  | 0, d => flatD d = true
  | n + 1, d => flatD d = true ∨ ∃ ds, (d = .list ds ∨ d = .tuple ds) ∧ ds.length ≤ 45 ∧ ∀ y ∈ ds, Sm n y
theorem Sm.mono {d : PyData} : ∀ {n : Nat}, Sm n d → Sm (n + 1) d
  | 0, h => .inl h
  | n + 1, h => by
    rcases h with h | ⟨ds, h1, h2, h3⟩
    · exact .inl h
    · exact .inr ⟨ds, h1, h2, fun y hy => (h3 y hy).mono⟩
theorem dq_th : ∀ {n : Nat} {x : V} {d : PyData}, Dq K H x d → Sm n d → Th K H n x
  | 0, _, _, h, _ => dq_ty h
  | n + 1, x, d, h, sm => by
    refine ⟨dq_ty h, fun a xs e z => ?_⟩
    subst e
    have key : ∀ ds, DqAll K H xs ds → (d = .list ds ∨ d = .tuple ds) → xs.length ≤ 100000 ∧ ∀ y ∈ xs, Th K H n y := fun ds t q => by
      rcases sm with f | ⟨es, h1, h2, h3⟩
      · rcases q with rfl | rfl <;> cases f
      · have e : es = ds := by
          rcases q with rfl | rfl <;> rcases h1 with h1 | h1 <;> cases h1 <;> rfl
        subst e
        refine ⟨by rw [t.len]; omega, fun y hy => ?_⟩
        obtain ⟨d', m1, m2⟩ := t.mem hy
        exact dq_th m2 (h3 d' m1)
    cases h with
    | lst e t =>
      rcases z with z | z
      · rw [e] at z; cases z
      · rw [e] at z; cases z; exact key _ t (.inl rfl)
    | tup e t =>
      rcases z with z | z
      · rw [e] at z; cases z; exact key _ t (.inr rfl)
      · rw [e] at z; cases z
    | dic e => rcases z with z | z <;> (rw [e] at z; cases z)
end
def bnd : Nat → Nat
  | 0 => 45
  | n + 1 => 45 * bnd n + 93
theorem bnd_le (n : Nat) : bnd n ≤ bnd (n + 1) := by
  show bnd n ≤ 45 * bnd n + 93
  omega
theorem flat_len {d : PyData} (h : flatD d = true) : d.shown.length ≤ 45 ∧ d.showable = true ∧ d.depth ≤ 1 := by
  cases d with
  | none => exact ⟨by decide, rfl, by decide⟩
  | bool b => cases b <;> exact ⟨by decide, rfl, by decide⟩
  | int i =>
    have h' : (decide (i.natAbs.log2 < 1920) && decide ((toString i : Str).length ≤ 45)) = true := h
    rw [Bool.and_eq_true] at h'
    refine ⟨?_, ?_, Nat.zero_le _⟩
    · simp only [PyData.shown]
      exact of_decide_eq_true h'.2
    · simp only [PyData.showable]
      exact h'.1
  | str x =>
    refine ⟨?_, by simp only [PyData.showable], Nat.zero_le _⟩
    simp only [PyData.shown]
    exact of_decide_eq_true h
  | dict kvs =>
    cases kvs with
    | nil => exact ⟨by decide +kernel, by simp only [PyData.showable, PyData.showableKv], by decide⟩
    | cons a b => cases h
  | list ds => cases h
  | tuple ds => cases h
theorem sum_le {b : Nat} : ∀ {ts : List Str}, (∀ t ∈ ts, t.length ≤ b) → (ts.map (·.length)).sum ≤ b * ts.length
  | [], _ => Nat.zero_le _
  | t :: ts, h => by
    have h1 := h t List.mem_cons_self
    have h2 := sum_le (b := b) (ts := ts) fun y hy => h y (List.mem_cons_of_mem _ hy)
    rw [List.map_cons, List.sum_cons, List.length_cons, Nat.mul_succ]
    omega
theorem shownAll_mem : ∀ {ds : List PyData} {t : Str}, t ∈ PyData.shownAll ds → ∃ d ∈ ds, d.shown = t
  | [], t, h => by
    simp only [PyData.shownAll] at h
    cases h
  | d :: ds, t, h => by
    simp only [PyData.shownAll] at h
    rcases List.mem_cons.mp h with h | h
    · exact ⟨d, List.mem_cons_self, h.symm⟩
    · obtain ⟨e, h1, h2⟩ := shownAll_mem h
      exact ⟨e, List.mem_cons_of_mem _ h1, h2⟩
theorem shownAll_len : ∀ ds : List PyData, (PyData.shownAll ds).length = ds.length
  | [] => by simp only [PyData.shownAll, List.length_nil]
  | d :: ds => by simp only [PyData.shownAll, List.length_cons, shownAll_len ds]
theorem showAll_of : ∀ {ds : List PyData}, (∀ d ∈ ds, d.showable = true) → PyData.showableAll ds = true
  | [], _ => by simp only [PyData.showableAll]
  | d :: ds, h => by
    simp only [PyData.showableAll, h d List.mem_cons_self, showAll_of fun y hy => h y (List.mem_cons_of_mem _ hy), Bool.and_self]
theorem depthAll_of {n : Nat} : ∀ {ds : List PyData}, (∀ d ∈ ds, d.depth ≤ n) → PyData.depthAll ds ≤ n
  | [], _ => Nat.zero_le _
  | d :: ds, h => by
    have h1 := h d List.mem_cons_self
    have h2 := depthAll_of (n := n) (ds := ds) fun y hy => h y (List.mem_cons_of_mem _ hy)
    show max d.depth (PyData.depthAll ds) ≤ n
    omega
theorem texts_le {b : Nat} {ds : List PyData} (h : ∀ d ∈ ds, d.shown.length ≤ b) : (listText (PyData.shownAll ds)).length ≤ b * ds.length + 2 * ds.length + 3 ∧ (tupleText (PyData.shownAll ds)).length ≤ b * ds.length + 2 * ds.length + 3 := by
  have q : ((PyData.shownAll ds).map (·.length)).sum ≤ b * (PyData.shownAll ds).length := sum_le fun t ht => by
    obtain ⟨d, h1, h2⟩ := shownAll_mem ht
    rw [← h2]
    exact h d h1
  have l := shownAll_len ds
  rw [l] at q
  have h1 := listText_len_le (PyData.shownAll ds)
  have h2 := tupleText_len_le (PyData.shownAll ds)
  rw [l] at h1 h2
  exact ⟨by omega, by omega⟩
theorem Sm.text : ∀ {n : Nat} {d : PyData}, Sm n d → d.shown.length ≤ bnd n ∧ d.showable = true ∧ d.depth ≤ n + 1
  | 0, d, h => flat_len h
  | n + 1, d, h => by
    rcases h with h | ⟨ds, h1, h2, h3⟩
    · obtain ⟨q1, q2, q3⟩ := flat_len h
      refine ⟨?_, q2, by omega⟩
      show _ ≤ 45 * bnd n + 93
      omega
    · have k : ∀ y ∈ ds, y.shown.length ≤ bnd n ∧ y.showable = true ∧ y.depth ≤ n + 1 := fun y hy => (h3 y hy).text
      obtain ⟨t1, t2⟩ := texts_le fun y hy => (k y hy).1
      have e : bnd n * ds.length ≤ bnd n * 45 := Nat.mul_le_mul_left _ h2
      have s := showAll_of fun y hy => (k y hy).2.1
      have p := depthAll_of fun y hy => (k y hy).2.2
      have u : bnd (n + 1) = 45 * bnd n + 93 := rfl
      rcases h1 with rfl | rfl
      · refine ⟨?_, by simpa only [PyData.showable] using s, by simp only [PyData.depth]; omega⟩
        simp only [PyData.shown]
        omega
      · refine ⟨?_, by simpa only [PyData.showable] using s, by simp only [PyData.depth]; omega⟩
        simp only [PyData.shown]
        omega
/-- three parts of small data can be shown -/
theorem three_text {a b c : PyData} (h1 : Sm 3 a) (h2 : Sm 3 b) (h3 : Sm 3 c) : PyData.showableAll [a, b, c] = true ∧ PyData.depthAll [a, b, c] ≤ 60 ∧ (PyData.tuple [a, b, c]).shown.length ≤ sizeLine := by
  have k : ∀ y ∈ [a, b, c], y.shown.length ≤ bnd 3 ∧ y.showable = true ∧ y.depth ≤ 4 := fun y hy => by
    simp only [List.mem_cons, List.not_mem_nil, or_false] at hy
    rcases hy with rfl | rfl | rfl
    · exact h1.text
    · exact h2.text
    · exact h3.text
  refine ⟨showAll_of fun y hy => (k y hy).2.1, Nat.le_trans (depthAll_of fun y hy => (k y hy).2.2) (by decide), ?_⟩
  simp only [PyData.shown]
  obtain ⟨_, t⟩ := texts_le fun y hy => (k y hy).1
  exact Nat.le_trans t (by show bnd 3 * 3 + 2 * 3 + 3 ≤ sizeLine; decide)
end Af

set_option Elab.async false
set_option linter.all false
set_option maxRecDepth 100000
namespace Af
open PySem PySem.Spec PyProof.Rows L2
/-! an object made where an exception is caught -/
section
variable {X : Cx} {CX : CXT} {k : Nat} {f C : Addr} {fd : FuncData} {ps : List Str} {sp : Sp} {E : L2.St → XK} {x : Str} {p pos : Pos} {e : Expr} {es : List Expr} {t : TA}
def tMakeS (C : Addr) (sp : Sp) (E : L2.St → XK) (t : TA) : TE := fun σ H Q => t σ H fun vs G => ∀ a d, G a = none → G d = none → d ≠ a → sp (.ref a :: vs) (upd (upd G d (.own a)) a (.ins C d [])) (fun v G' => v = .non ∧ Q (.ref a) G') (E σ)
theorem run_makeS {pins : List (Addr × Obj)} {σ : L2.St} {H : Hp} {s : Shared} {Q : VK} {us : List Value} {vs : List V} (M : Mk X.K C f) (F : FnOk X.prog X.w X.K X.mg X.base CX k f fd ps sp) (room : Room (k + 1) X.A) (b : Binds X.K fd ps []) (out : PassesAt CX X σ (E σ)) (I : Inv X pins σ H s) (r : Vals vs us)
    (h : ∀ a d, H a = none → H d = none → d ≠ a → sp (.ref a :: vs) (upd (upd H d (.own a)) a (.ins C d [])) (fun v G => v = .non ∧ Q (.ref a) G) (E σ)) : wpAny (model X.prog X.w) X.A (call (.ref C) us) (EP X pins σ Q) X.xe s := by
  have q := h (s.heap.objs.size + 1) s.heap.objs.size (I.hok.fresh (Nat.le_succ _)) (I.hok.fresh (Nat.le_refl _)) (Nat.ne_of_lt (Nat.lt_succ_self _))
  have J := Inv.made (C := C) I
  have rr : Vals (V.ref (s.heap.objs.size + 1) :: vs) (Value.ref (s.heap.objs.size + 1) :: us) := .cons rfl r
  have nl : (Value.ref (s.heap.objs.size + 1) :: us).length = ps.length := by
    rw [← rr.length]
    exact F.len _ _ _ _ q
  have bb := b _ (Value.ref (s.heap.objs.size + 1) :: us) J.kIn (by rw [List.append_nil]; exact nl)
  rw [List.append_nil] at bb
  refine wpAny_call (make_map (f := f) I.kIn M.makes M.init (beq_iff_eq.mp M.fn) (codeAny_mono (F.run _ X.stack _ _ ⟨Value.ref (s.heap.objs.size + 1) :: us, []⟩ (Value.ref (s.heap.objs.size + 1) :: us) _ _ (E σ) (room.make C us []) (J.env0.make C us []) bb rr q) fun r s' z => ?_))
  match r, z with
  | .error e, z => exact out pins _ _ e s' J z
  | .ok (.ret u), z =>
    obtain ⟨v, G, I3, rv, ev, q3⟩ := J.after z
    subst ev
    exact ⟨rv, ⟨V.ref (s.heap.objs.size + 1), G, I3, rfl, q3⟩⟩
  | .ok .next, z => exact (show False from z).elim
  | .ok .brk, z => exact (show False from z).elim
  | .ok .cont, z => exact (show False from z).elim
theorem pe_makeS (M : Mk X.K C f) (F : FnOk X.prog X.w X.K X.mg X.base CX k f fd ps sp) (room : Room (k + 1) X.A) (hg : Gl X x) (hm : X.mg x = some (.ref C)) (b : Binds X.K fd ps []) (out : ∀ σ, PassesAt CX X σ (E σ)) (ha : PA X (e :: es) t)
    (dbg : (x == ("__debug__" : Str)) = false := by decide) (he : starEach (e :: es) X.env = (false, eval e X.env) :: starEach es X.env := by rfl) (pl : (backTo pos (starEach es X.env)).any (·.1) = false := by rfl) :
    PE X (.Call (.Name x p) (e :: es) [] pos) (tMakeS C sp E t) := by
  refine ⟨fun pins s σ H Q I h => wpAny_Call_Name_kw (ld_glob I hg hm (PySem.W.callWith_K (h₀ := X.base) I.ok.mod.kin M.kp (thn (ha.run pos pins s σ H _ I h) fun us s1 z => ?_) he pl) dbg)⟩
  obtain ⟨vs, G, I1, r, q⟩ := z
  exact ⟨I1.kIn, run_makeS M F room b (out σ) I1 r q⟩
end
end Af

set_option Elab.async false
set_option linter.all false
set_option maxRecDepth 100000
set_option maxHeartbeats 2000000
namespace Af
open PySem PySem.Spec PyProof.Rows L2
/-! an error that a suite puts into a name is held behind the try -/
def HeldE (cls : Value) (d : Option Addr) (a : Addr) : HO := .ext fun h => ∃ (oe : Obj) (vs : Array Value), h.get? a = some oe ∧ Zc cls d oe ∧ oe.data = .fields vs
theorem heldE_ok {P : Program} {w : World} {H : Hp} {h : Heap} {a : Addr} {cls : Value} {d : Option Addr} {oe : Obj} {vs : Array Value} (e : h.get? a = some oe) (z : Zc cls d oe) (q : oe.data = .fields vs) : ObjOk P w H h a (HeldE cls d a) :=
  ⟨⟨oe, vs, e, z, q⟩, ⟨oe, e⟩, fun _ _ ⟨o, v, y, r⟩ k => ⟨o, v, k o y, r⟩⟩
/-- what 'except x as n' wishes: behind the suite the error is held -/
def wHold (K : PySem.W.Frag) (c : Value) (i : Nat) (ts : Addr → Value → Option Addr → TS) (Wout : WX) (D : Ends) : WX := fun cls d σ H => ∃ yes, PySem.W.exmOne K cls c = some yes ∧
  (yes = true → ∀ a, H a = none → ts a cls d { nx := fun τ G => D.nx (τ.set i none) (upd G a (HeldE cls d a)), rt := fun _ _ => False, bk := fun _ _ => False, ct := fun _ _ => False } (σ.set i (some (.ref a))) H) ∧ (yes = false → Wout cls d σ H)
section
variable {X : Cx} {x n : Str} {c : Value} {i : Nat} {body suite : List Stmt} {b₀ : Stmt} {np pos pos' : Pos} {tb : WX → TS} {ts : Addr → Value → Option Addr → TS} {Wout : WX}
theorem hold_end {pins : List (Addr × Obj)} {σ : L2.St} {H : Hp} {s : Shared} {a : Addr} {oe : Obj} {vs : Array Value} {cls : Value} {d : Option Addr} (I : Inv X ((a, oe) :: pins) σ H s) (z : Zc cls d oe) (q : oe.data = .fields vs) (fresh : X.s_0.heap.get? a = none)
    (apart : ∀ p ∈ X.pn ++ pins, p.1 ≠ a) : Inv X pins σ (upd H a (HeldE cls d a)) s := by
  obtain ⟨ea, na, nl, nf, nc⟩ := I.pin (a, oe) (List.mem_append.mpr (.inr List.mem_cons_self))
  have ins : ∀ p ∈ X.pn ++ pins, p ∈ X.pn ++ (a, oe) :: pins := fun p hp => by
    rcases List.mem_append.mp hp with hp | hp
    · exact List.mem_append.mpr (.inl hp)
    · exact List.mem_append.mpr (.inr (List.mem_cons_of_mem _ hp))
  have B := I.base
  refine ⟨I.ok, I.os, I.bare, ⟨B.keep, B.slot, fun b o e n x => ?_, B.there, fun b ys e => ?_, fun b o u e => ?_, fun b ps e => ?_⟩, I.loc, I.cell, ?_, fun y c e => ?_, fun p hp => ?_, ?_, I.len⟩
  · rw [upd_ne (fun y => by rw [y, fresh] at e; cases e)]
    exact B.free b o e n x
  · have y := B.tups b ys e
    rw [upd_ne (ne_of_none y na)]
    exact y
  · have y := B.frzs b o u e
    rw [upd_ne (ne_of_none y na)]
    exact y
  · obtain ⟨more, y⟩ := B.tbls b ps e
    exact ⟨more, by rw [upd_ne (ne_of_none y na)]; exact y⟩
  · rw [upd_ne (Ne.symm nl)]
    exact I.free
  · have f := I.freeC y c e
    by_cases h : c = a
    · obtain ⟨v, o, ho, hd⟩ := I.cell y c e
      rw [h, ea] at ho
      cases ho
      exact absurd hd (nc _)
    · rw [upd_ne h]
      exact f
  · obtain ⟨p1, p2, p3, p4, p5⟩ := I.pin p (ins p hp)
    exact ⟨p1, by rw [upd_ne (apart p hp)]; exact p2, p3, p4, p5⟩
  · exact I.hok.laidN (fun _ _ y => y) na (heldE_ok ea z q)
/-- try: body, except x as n: suite, where the suite runs through -/
theorem ps_try_hold (hs : X.stack = X.env :: X.outer) (hf : X.env.frame = some X.env.locals) (hN : X.N.Nodup) (hi : X.N[i]? = some n) (hln : X.env.kindOf n = some .local) (hex : X.ex = []) (hc : Names X x c) (tk : Takes X Wout)
    (main : ∀ (W : WX) (pn : List (Addr × Obj)) (xe : Value → Shared → Prop), Takes (X.tr pn xe) W → PassesOwn (model X.prog X.w) X.A X.env xe → PSs (X.tr pn xe) body (tb W))
    (after : ∀ (a : Addr) (oe : Obj) (cls : Value) (d : Option Addr) (pn : List (Addr × Obj)), Zc cls d oe → (∃ vs, oe.data = .fields vs) → PSs (X.suite a ((a, oe) :: pn)) (b₀ :: suite) (ts a cls d)) :
    PS X (.Try body [.ExceptHandler (some (.Name x np)) (some n) (b₀ :: suite) pos'] [] [] pos) (fun D σ H => tb (wHold X.K c i ts Wout D) D σ H) := by
  refine ⟨fun pins s σ H D I start => ?_⟩
  have okX := I.ok
  have frm : X.A.frames = some (X.env :: X.outer) := by rw [okX.frames, hs]
  refine wpAny_Try_except (wpAny_mono ((main (wHold X.K c i ts Wout D) (X.pn ++ pins) (fun e u => wpAny (model X.prog X.w) X.A (noteFrame e X.env) (fun _ u2 => wpAny (model X.prog X.w) X.A (setFlight e none) (fun _ u3 =>
    wpAny (model X.prog X.w) X.A (handleBy e X.env [.ExceptHandler (some (.Name x np)) (some n) (b₀ :: suite) pos']) (SP X pins D) X.xe u3) X.xe u2) X.xe u) (fun eu sr air => ?_) PassesOwn.looking).run [] s σ H D (I.toTry _) start) (fun fl s1 done => ?_) (fun _ _ y => y))
  · obtain ⟨a, B, s0, ps0, τ, G, cls, d, rfl, I0, nb, upS, sky, na, osE, bare, yes, hyes, onYes, onNo⟩ := air
    have I1 : Inv X pins τ G s0 := I0.ofTry okX
    show wpAny (model X.prog X.w) X.A (noteFrame (.ref a) X.env) _ _ _
    refine Sky.land Zc.steady frm hf (hs ▸ sky) fun h3 fly up3 => ?_
    have I3 : Inv X pins τ G { sr with heap := h3 } := I1.landed nb fly.1 (upS.trans up3) osE bare
    obtain ⟨o3, v3, at3, z3, d3⟩ := fly.there
    have offs : a ∉ frs (X.env :: X.outer) := fun m => by
      obtain ⟨_, o', e', nfd⟩ := fly.2.2.1.mem m
      rw [at3] at e'
      cases e'
      exact nfd _ d3
    have offL : a ≠ X.env.locals := fun y => offs (List.mem_filterMap.mpr ⟨X.env, List.mem_cons_self, by rw [hf, y]⟩)
    have offF : a ∉ X.fs := fun m => by
      obtain ⟨e, he, y⟩ := List.mem_filterMap.mp m
      exact offs (List.mem_filterMap.mpr ⟨e, List.mem_cons_of_mem _ he, y⟩)
    -- it is younger than all that stood ahead
    have young : s0.heap.get? a = none := by
      cases y : s0.heap.get? a with
      | none => rfl
      | some o =>
        have y2 := nb a o y (by rw [hs]; exact offs)
        rw [fly.2.1] at y2
        cases y2
    have fresh : X.s_0.heap.get? a = none := by
      cases y : X.s_0.heap.get? a with
      | none => rfl
      | some o =>
        obtain ⟨o', y2⟩ := I1.base.there a o y (by rw [hex]; simp)
        rw [young] at y2
        cases y2
    have apart : ∀ p ∈ X.pn ++ pins, p.1 ≠ a := fun p hp y => by
      obtain ⟨p1, _⟩ := I1.pin p hp
      rw [y, young] at p1
      cases p1
    have J3 := I3.suite at3 d3 na offL offF
    refine wpAny_handleBy_cons (codeAny_handlers_test ?_) (by intro y; cases y)
    have kind : PySem.W.Looks (model X.prog X.w) h3 (typeOf (.ref a)) cls := fun _ _ _ _ keep y => wpAny_typeOf_ref (keep _ _ at3) (by rw [z3.1]; exact y)
    have match_ := PySem.W.exm_one (M := model X.prog X.w) I3.kIn kind hyes
    have named : ∀ {R : Value → Shared → Prop} {E : Value → Shared → Prop}, R c { sr with heap := h3 } → wpAny (model X.prog X.w) (X.A.mark (some (.ref a))) (eval (.Name x np) X.env) R E { sr with heap := h3 } := fun {R E} y => by
      obtain ⟨g, dbg, own | ⟨no, bt, nn⟩⟩ := hc
      · exact ld_glob (X := X.suite a ((a, o3) :: (X.pn ++ pins))) J3 g own y dbg
      · exact ld_blt (X := X.suite a ((a, o3) :: (X.pn ++ pins))) J3 g no bt y nn dbg
    refine named (match_.here ?_)
    cases yes with
    | true =>
      refine codeAny_handlers_suite_as (HandSPX.lands_againZ fly fun h4 fly4 up4 => ?_)
      have I4 : Inv X pins τ G { sr with heap := h4 } := I1.landed nb fly4.1 ((upS.trans up3).trans up4) osE bare
      obtain ⟨o4, v4, at4, z4, d4⟩ := fly4.there
      refine store_ok (X := X.suite a ((a, o4) :: (X.pn ++ pins))) (v := .ref a) (I4.suite at4 d4 na offL offF) hN hi (.inl hln) rfl (fun s5 I5 => ?_) (.inr hln)
      refine wpAny_mono ((after a o4 cls d (X.pn ++ pins) z4 ⟨_, d4⟩).run [] s5 _ G _ I5 (onYes rfl a na)) (fun fl s6 y => ?_) (fun _ _ y => False.elim y)
      match fl, y with
      | .next, ⟨τ6, G6, I6, q6⟩ =>
        have I6' : Inv X ((a, o4) :: pins) τ6 G6 s6 := by
          have u := I6.unsuite (q := (a, o4)) okX
          exact ⟨u.ok, u.os, u.bare, u.base, u.loc, u.cell, u.free, u.freeC, fun p hp => by
            rcases List.mem_append.mp hp with hp | hp
            · exact u.pin p (List.mem_append.mpr (.inl hp))
            · rcases List.mem_cons.mp hp with rfl | hp
              · exact I6.pin _ (List.mem_append.mpr (.inl List.mem_cons_self))
              · exact u.pin p (List.mem_append.mpr (.inr hp)), u.hok, u.len⟩
        exact gone_ok I6' hN hi hln fun s7 I7 => ⟨_, _, hold_end I7 z4 d4 fresh apart, q6⟩
      | .ret u, ⟨_, _, _, _, _, q6⟩ => exact q6.elim
      | .brk, ⟨_, _, _, q6⟩ => exact q6.elim
      | .cont, ⟨_, _, _, q6⟩ => exact q6.elim
    | false =>
      show wpAny _ X.A (handleBy (.ref a) X.env []) _ _ _
      refine wpAny_handleBy_nil ?_
      obtain ⟨_, _, _, oe, vs, T, oT, tr, he, hz, hd, hT, _⟩ := id fly
      have up : wpAny (model X.prog X.w) X.A (setFlight (.ref a) X.env.frame) (fun _ u => wpAny (model X.prog X.w) X.A (throw (.ref a) : Sem Flow) (SP X pins D) X.xe u) X.xe { sr with heap := h3 } := by
        rw [hf]
        exact HandSPX.setFlight_upZ fly fun h4 held up4 => wpAny_throw (tk _ _ ⟨a, B, s0, pins, τ, G, cls, d, rfl, I1, nb, (upS.trans up3).trans up4, .inr (.inr (by rw [hs]; exact held)), na, osE, bare, onNo rfl⟩)
      unfold PySem.passOn
      refine wpAny_bind (wpAny_field he hd hT ?_)
      rw [if_neg (show ¬ ((Value.ref T == Value.none) = true) from by simp)]
      first
        | exact wpAny_bind (wpAny_pure (wpAny_bind up))
        | exact wpAny_bind up
  · match fl, done with
    | .next, ⟨τ, G, J, q⟩ => exact wpAny_execs_nil ⟨τ, G, J.ofTry okX, q⟩
    | .brk, ⟨τ, G, J, q⟩ => exact ⟨τ, G, J.ofTry okX, q⟩
    | .cont, ⟨τ, G, J, q⟩ => exact ⟨τ, G, J.ofTry okX, q⟩
    | .ret u, ⟨v, τ, G, J, r, q⟩ => exact ⟨v, τ, G, J.ofTry okX, r, q⟩
/-- isinstance(e, c) of an error that is held -/
def rIsHeld (K : PySem.W.Frag) (D : Addr) : List V → Hp → VK → Prop := fun xs H Q => ∃ (a : Addr) (c : V) (cv : Value) (b : Bool), xs = [.ref a, c] ∧ H a = some (HeldE (.ref D) none a) ∧ ClsV c cv ∧ PySem.W.kitOne K (.ref D) cv = some b ∧ Q (.bl b) H
theorem held_at {pins : List (Addr × Obj)} {σ : L2.St} {H : Hp} {s : Shared} {a D : Addr} (I : Inv X pins σ H s) (h : H a = some (HeldE (.ref D) none a)) : ∃ oe, PySem.W.InstAt s.heap a oe D none := by
  obtain ⟨⟨oe, vs, e, ⟨c1, c2⟩, dd⟩, _⟩ := (show ObjOk X.prog X.w H s.heap a (HeldE (.ref D) none a) from I.hok a _ h)
  obtain ⟨oc, od, oda, osl⟩ := oe
  dsimp only at c1 c2 dd
  subst c1 c2 dd
  exact ⟨_, e, rfl, rfl, trivial⟩
theorem call_isHeld {D : Addr} (C : L2.ExcC X.K D) : CallR X (.builtin "isinstance") (rIsHeld X.K D) := by
  intro pins s σ H xs us Q I r h
  obtain ⟨a, c, cv, b, rfl, ha, k, e, q⟩ := h
  obtain ⟨u1, u2, rfl, r1, r2⟩ := vals2 r
  cases (show u1 = Value.ref a from r1)
  have e2 := k.eq r2
  subst e2
  obtain ⟨oe, J⟩ := held_at I ha
  exact PySem.W.kia_one (PySem.W.handS_kitx_exc C.hg C.hk C.hs C.hd C.ha C.hn C.ht C.hm) I.kIn J e (fun y => nomatch y) fun tk => ⟨.bl b, H, I.tok tk, rfl, q⟩
/-- the same, a tuple of classes that was just laid -/
def rIsHeldT (K : PySem.W.Frag) (D : Addr) : List V → Hp → VK → Prop := fun xs H Q => ∃ (a tp : Addr) (cs : List V) (cvs : List Value) (b : Bool), xs = [.ref a, .ref tp] ∧ H a = some (HeldE (.ref D) none a) ∧ H tp = some (.tup cs) ∧ Paired ClsV cs cvs ∧ PySem.W.kitAny K (.ref D) cvs = some b ∧ Q (.bl b) H
theorem call_isHeldT {D : Addr} (C : L2.ExcC X.K D) : CallR X (.builtin "isinstance") (rIsHeldT X.K D) := by
  intro pins s σ H xs us Q I r h
  obtain ⟨a, tp, cs, cvs, b, rfl, ha, ht, k, e, q⟩ := h
  obtain ⟨u1, u2, rfl, r1, r2⟩ := vals2 r
  cases (show u1 = Value.ref a from r1)
  cases (show u2 = Value.ref tp from r2)
  obtain ⟨oe, J⟩ := held_at I ha
  obtain ⟨its, rv, ⟨o, h1, h2, n, h3⟩, _⟩ := I.tuple (SqT.of ht)
  have e3 := ClsV.all k rv
  subst e3
  obtain ⟨oc, od, dt, sl⟩ := o
  simp only at h2 h3
  subst h2 h3
  exact PySem.W.kia_tup (PySem.W.handS_kitx_exc C.hg C.hk C.hs C.hd C.ha C.hn C.ht C.hm) I.kIn J h1 e (fun y => nomatch y) fun tk => ⟨.bl b, H, I.tok tk, rfl, q⟩
end
end Af

set_option Elab.async false
set_option linter.all false
set_option maxRecDepth 100000
namespace Af
open PySem PySem.Spec PyProof.Rows L2
/-! a def that asks repr, called where no repr is under way; repr of data of any kind -/
structure CalG (P : Program) (w : World) (K : PySem.W.Frag) (mg : Str → Option Value) (base : Heap) (k : Nat) (x : Str) (ps : List Str) (sp : Sp) : Prop where
  ex : ∃ (f : Addr) (fd : FuncData), FnG P w K mg base k f fd ps sp ∧ mg x = some (.ref f) ∧ PySem.W.keepIn K (.ref f) = true ∧ Binds K fd ps []
section
variable {X : Cx} {k j : Nat} {x : Str} {ps : List Str} {sp : Sp} {e : Expr} {es : List Expr} {t : TA} {p pos : Pos}
theorem pe_calG (c : CalG X.prog X.w X.K X.mg X.base k x ps sp) (room : Room j X.A) (quiet : X.A.guards = some []) (ha : PA X (e :: es) t) (hkj : k ≤ j := by decide) (hg : Gl X x := by rfl) (dbg : (x == ("__debug__" : Str)) = false := by decide)
    (he : starEach (e :: es) X.env = (false, eval e X.env) :: starEach es X.env := by rfl) (pl : (backTo pos (starEach es X.env)).any (·.1) = false := by rfl) :
    PE X (.Call (.Name x p) (e :: es) [] pos) (tCal sp t) := by
  obtain ⟨f, fd, G, m, kp, b⟩ := c.ex
  refine ⟨fun pins s σ H Q I h => wpAny_Call_Name_kw (ld_glob I hg m (PySem.W.callWith_K (h₀ := X.base) I.ok.mod.kin kp (thn (ha.run pos pins s σ H _ I h) fun us s1 z => ?_) he pl) dbg)⟩
  obtain ⟨vs, H1, I1, r, q⟩ := z
  refine ⟨I1.kIn, ?_⟩
  have nl : us.length = ps.length := by
    rw [← r.length]
    exact G.many _ _ _ _ q
  have bb := b s1 us I1.kIn (by rw [List.append_nil]; exact nl)
  rw [List.append_nil] at bb
  refine wpAny_call (codeAny_mono (G.goes X.A X.stack s1 H1 ⟨us, []⟩ us vs Q E0 (room.mono hkj) quiet I1.env0 bb r q) fun r s' z => ?_)
  match r, z with
  | .error e, z => exact pass0 pins σ H1 s1 e s' I1 z
  | .ok (.ret u), z => exact I1.after z
  | .ok .next, z => exact (show False from z).elim
  | .ok .brk, z => exact (show False from z).elim
  | .ok .cont, z => exact (show False from z).elim
end
section
variable {X : Cx} {pins : List (Addr × Obj)} {σ : L2.St} {H : Hp} {s : Shared}
def rReprL (K : PySem.W.Frag) : List V → Hp → VK → Prop := fun xs H Q => ∃ (a : Addr) (vs : List V) (ds : List PyData), xs = [.ref a] ∧ H a = some (.lst vs) ∧ DqAll K H vs ds ∧ PyData.showableAll ds = true ∧ PyData.depthAll ds ≤ 60 ∧ (PyData.list ds).shown.length ≤ sizeLine ∧ Q (.str (PyData.list ds).shown) H
/-- repr of a list of data -/
theorem call_reprL (hg : X.A.guards = some []) (hu : X.A.units + 64 < cLine) : CallR X (.builtin "repr") (rReprL X.K) := by
  intro pins s σ H xs us Q I r h
  obtain ⟨a, vs, ds, rfl, hs, hd, sh, dp, sz, q⟩ := h
  obtain ⟨u, rfl, ru⟩ := vals1 r
  cases (show u = Value.ref a from ru)
  obtain ⟨its, rv, ⟨o, n, ho, hc, _, hdd⟩, _⟩ := I.list (SqL.of hs)
  have sz' : (listText (PyData.shownAll ds)).length ≤ sizeLine := by simpa only [PyData.shown] using sz
  obtain ⟨as, bs, hr, hb, hk⟩ := Dq.seesAll I ds vs its hd rv sh fun t ht => Nat.le_trans (listText_mem_le ht) sz'
  have rd : Reads s.heap (.ref a) (.list ds) _ := .list ho hc hdd hr
  have new : a ∉ bs := not_mem_of_deeper rd (by simp only [PyData.depth]; omega) hb
  have txt : (PyData.list ds).shown = listText (PyData.shownAll ds) := by simp only [PyData.shown]
  refine call_repr_slot (T := "list") (by omega) ⟨o, ho, hc⟩ PySem.F.slot_list_repr.toG ?_
  cases its with
  | nil =>
    cases hr
    have e0 : (PyData.list []).shown = ("[]" : Str) := by simp only [PyData.shown, PyData.shownAll, listText_nil]
    refine call_list_repr_empty ⟨o, ho, hc⟩ ho hdd ⟨_, _, rfl, .str (PyData.list []).shown, H, ?_, ⟨_, by rw [e0]⟩, q⟩
    exact I.kept (t' := _) fun _ _ y => y
  | cons y l =>
    refine call_list_reprK ho hc hdd new (by simpa using hk.length_eq) (fun i y e => hk.item i y (by simpa using e)) hg (fun b _ => Clear.nil b) (by show X.A.units + 1 + (PyData.depthAll ds + 1) < cLine; omega) (fun _ _ e => e) (fun h' u tk keep => ?_) sz'
    refine ⟨_, _, rfl, .str (PyData.list ds).shown, H, I.kept keep, ⟨u, ?_⟩, q⟩
    simp only [PyData.shown]
end
end Af

set_option Elab.async false
set_option linter.all false
set_option maxRecDepth 100000
namespace Af
open PySem PySem.Spec PyProof.Rows L2
/-! xs.count(None), exactly; repr of a thing of any kind -/
def rCntX (K : PySem.W.Frag) : V → List V → Hp → VK → Prop := fun x xs H Q => ∃ (p : Addr) (ys : List V) (ds : List PyData), x = .ref p ∧ xs = [.non] ∧ SqL K H p ys ∧ DpAll K H ys ds ∧ PyData.canLayAll0 ds = true ∧ Q (.int ((ds.countP (fun y => PyData.eqv y .none) : Nat) : Int)) H
theorem mt_countX {X : Cx} (hu : X.A.units + 1 < cLine) : MtR X "list.count" (rCntX X.K) := by
  intro pins s σ H x xs v us Q I rx rxs h
  obtain ⟨p, ys, ds, rfl, rfl, hs, hd, hl, q⟩ := h
  cases (show v = Value.ref p from rx)
  obtain ⟨u, rfl, ru⟩ := rxs.one
  cases (show u = Value.none from ru)
  obtain ⟨its, rv, pl, _⟩ := I.list hs
  obtain ⟨as, rs⟩ := Dp.readsAll I ds ys its hd rv
  refine PySem.SeqAt.count_list_data (d := .none) (vs := its.toArray) pl.isList (by simpa using rs) Reads.none (PyData.plainAll_of_canLay0 _ hl) rfl (by show X.A.units + 1 + min _ 0 < cLine; omega) ?_
  exact ⟨.int (ds.countP (fun y => PyData.eqv y .none) : Nat), H, I.tok _, ⟨_, rfl⟩, q⟩
/-- the barriers among these steps -/
def bars (l : List Stp) : Nat := l.countP fun s => s.isNone
theorem bars_count : ∀ l : List Stp, (stepsD l).countP (fun y => PyData.eqv y .none) = bars l
  | [] => rfl
  | a :: l => by
    have e : stepsD (a :: l) = stepD a :: stepsD l := rfl
    unfold bars
    rw [e, List.countP_cons, List.countP_cons, bars_count l]
    cases a with
    | none => rfl
    | some fw =>
      obtain ⟨f, ws⟩ := fw
      rfl
theorem bars_app (a b : List Stp) : bars (a ++ b) = bars a + bars b := List.countP_append ..
/-- repr of data that is no list, tuple or dict -/
def rReprF : List V → Hp → VK → Prop := fun xs H Q => ∃ (x : V) (d : PyData), xs = [x] ∧ (∀ K, Dq K H x d) ∧ flatD d = true ∧ (∀ kvs, d ≠ .dict kvs) ∧ Q (.str d.shown) H
theorem call_reprF {X : Cx} (hg : X.A.guards = some []) (hu : X.A.units + 64 < cLine) : CallR X (.builtin "repr") rReprF := by
  intro pins s σ H xs us Q I r h
  obtain ⟨x, d, rfl, hd, fl, nd, q⟩ := h
  obtain ⟨u, rfl, ru⟩ := vals1 r
  obtain ⟨tx, sh, dp⟩ := flat_len fl
  cases hd X.K with
  | int i =>
    obtain ⟨t, rfl⟩ := ru
    have lg : i.natAbs.log2 < 1920 := of_decide_eq_true (show decide (i.natAbs.log2 < 1920) = true from by simpa only [PyData.showable] using sh)
    refine PySem.P.repr_of_int lg ⟨.str _, H, I.tok _, ⟨_, rfl⟩, ?_⟩
    simpa only [PyData.shown] using q
  | non =>
    cases (show u = Value.none from ru)
    refine PySem.P.repr_of_none ⟨.str _, H, I.tok _, ⟨_, rfl⟩, ?_⟩
    simpa only [PyData.shown] using q
  | bl b =>
    cases (show u = Value.bool b from ru)
    refine PySem.P.repr_of_bool ⟨.str (PyData.bool b).shown, H, I.tok _, ⟨s.toks, ?_⟩, q⟩
    cases b <;> simp only [PyData.shown] <;> rfl
  | str z =>
    obtain ⟨t, rfl⟩ := ru
    refine PySem.P.repr_of_str ⟨.str (PyData.str z).shown, H, I.tok _, ⟨s.toks, ?_⟩, q⟩ ?_
    · simp only [PyData.shown]
    have := of_decide_eq_true fl
    exact Nat.le_trans this (by decide)
  | lst e t => cases fl
  | tup e t => cases fl
  | dic e => exact absurd rfl (nd _)
end Af

set_option Elab.async false
set_option linter.all false
set_option maxRecDepth 100000
set_option maxHeartbeats 4000000
namespace Af
open PySem L2
/-- the epoch of each step -/
def eps : Nat → List Stp → List Int
  | _, [] => []
  | k, s :: r => (k : Int) :: eps (if s.isNone = true then k + 1 else k) r
theorem eps_len : ∀ (l : List Stp) (k : Nat), (eps k l).length = l.length
  | [], _ => rfl
  | a :: l, k => by
    show (eps _ l).length + 1 = l.length + 1
    rw [eps_len l]
theorem eps_snoc (s : Stp) : ∀ (l : List Stp) (k : Nat), eps k (l ++ [s]) = eps k l ++ [((k + bars l : Nat) : Int)]
  | [], k => rfl
  | a :: l, k => by
    show (k : Int) :: eps _ (l ++ [s]) = (k : Int) :: (eps _ l ++ [((k + bars (a :: l) : Nat) : Int)])
    rw [eps_snoc s l]
    have e : bars (a :: l) = bars l + (if a.isNone = true then 1 else 0) := by
      unfold bars
      rw [List.countP_cons]
    rw [e]
    congr 3
    cases a with
    | none =>
      show (((k + 1 + bars l : Nat) : Int)) = ((k + (bars l + 1) : Nat) : Int)
      omega
    | some _ =>
      show (((k + bars l : Nat) : Int)) = ((k + (bars l + 0) : Nat) : Int)
      omega
theorem eps_take {l : List Stp} {i : Nat} {s : Stp} (h : l[i]? = some s) : eps 0 (l.take (i + 1)) = eps 0 (l.take i) ++ [((bars (l.take i) : Nat) : Int)] := by
  rw [List.take_add_one, h]
  show eps 0 (l.take i ++ [s]) = _
  rw [eps_snoc, Nat.zero_add]
theorem bars_take {l : List Stp} {i : Nat} {s : Stp} (h : l[i]? = some s) : bars (l.take (i + 1)) = bars (l.take i) + (if s.isNone = true then 1 else 0) := by
  rw [List.take_add_one, h]
  show bars (l.take i ++ [s]) = _
  rw [bars_app]
  congr 1
  unfold bars
  rw [List.countP_singleton]
def sp_epochsX : Sp := fun vs H Q _ => ∃ (a : Addr) (xs : List V) (sts : List Stp), vs = [.ref a] ∧ H a = some (.lst xs) ∧ Paired (StepV H) xs sts ∧ xs.length ≤ 100 ∧ ∀ l H', Same H H' → H l = none → H' l = some (.lst (ivs (eps 0 sts))) → Q (.ref l) H'
section
variable {P : Program} {w : World} {K : PySem.W.Frag} {mg : Str → Option Value} {base : Heap}
theorem ok_epochsX {f : Addr} {fd : FuncData} (F : Fun K "_epochs_of" "_epochs_of" s_epochs_of f fd) (T : Txt mg) : FnOk P w K mg base CX0 1 f fd ["steps"] sp_epochsX := by
  refine F.ok sc_epochs_of (fun vs H Q E h => ?_) (fun cdv A outer s H vs Q E hr h => ?_)
  · obtain ⟨_, _, _, rfl, _⟩ := h
    rfl
  obtain ⟨a, xs, sts, rfl, ha, hst, xl, k⟩ := h
  have hlen := paired_len hst
  refine ⟨_, (pss_cons (ps_par (i := 1) (j := 2) rfl sc_epochs_of.nd rfl rfl (by decide) rfl rfl (pa_cons (pe_lst' pa_nil) (pa_cons pe_int pa_nil)) (by rfl))
    (pss_cons (ps_for PassesOwn.never rfl (pi_list (pv 0)) (pg_name (i := 3) sc_epochs_of.nd rfl (Or.inl rfl))
      (pss_cons (ps_expr (pe_bm PySem.F.plainAttrs_list PySem.F.slot_list_append PySem.F.type_list_append mt_append (pv 1) (pa_cons (pv 2) pa_nil)))
    (pss_one (ps_if (pt_cmpR op_isN (pv 3) pe_non (nomark _))
      (pss_one (ps_aug (i := 2) sc_epochs_of.nd rfl (Or.inl rfl) pe_int ip_add))
      pss_nil))))
    (pss_one (ps_ret (pv 1))))), ?_⟩
  refine ⟨szr, fun el H1 hel s1 h1 => ⟨_, _, rfl, ?_⟩⟩
  refine ⟨_, rfl, a, rfl, ⟨xs, SqL.of (s1 _ _ ha)⟩, for_list (K := K) (a := a) (xs := xs) (fun i σ' H' => ∃ (v : Option V), σ' = [some (.ref a), some (.ref el), some (.int ((bars (sts.take i) : Nat) : Int)), v] ∧ Same H H' ∧ H' el = some (.lst (ivs (eps 0 (sts.take i))))) ?_ ?_ ?_ ?_⟩
  · exact ⟨none, rfl, s1, h1⟩
  · rintro i σ' H' _ ⟨v, rfl, s2, _⟩
    exact SqL.of (s2 _ _ ha)
  · rintro i x σ' H' hx ⟨v, rfl, s2, h2⟩
    have hi : i < xs.length := (List.getElem?_eq_some_iff.mp hx).1
    obtain ⟨st, hs1, hs2⟩ := paired_get hst hx
    have et := eps_take hs1
    have bt := bars_take hs1
    refine ⟨_, rfl, .inl ⟨rfl, _, SqL.of h2⟩, _, rfl, el, _, _, rfl, rfl, h2, szl (by rw [ivs_len, eps_len, List.length_take]; omega), ?_⟩
    have e2 : (upd H' el (.lst (ivs (eps 0 (sts.take i)) ++ [.int ((bars (sts.take i) : Nat) : Int)]))) el = some (.lst (ivs (eps 0 (sts.take (i + 1))))) := by
      rw [upd_same, et]
      unfold ivs
      rw [List.map_append]
      rfl
    cases st with
    | none =>
      have e : x = .non := hs2
      subst e
      refine ⟨_, rfl, rfl, _, rfl, iteT ?_⟩
      refine ⟨_, rfl, _, _, rfl, rfl, some .non, ?_, same_mut s2 hel, e2⟩
      rw [bt]
      rfl
    | some fw =>
      obtain ⟨f, ws⟩ := fw
      obtain ⟨t, b, e, _, _⟩ := hs2
      subst e
      refine ⟨_, rfl, rfl, _, rfl, iteF ⟨some (.ref t), ?_, same_mut s2 hel, e2⟩⟩
      rw [bt]
      rfl
  · rintro σ' H' ⟨v, rfl, s2, h2⟩
    rw [hlen, List.take_length] at h2
    exact ⟨_, rfl, k el H' s2 hel h2⟩
end
end Af

set_option Elab.async false
set_option linter.all false
set_option maxRecDepth 100000
namespace Af
open PySem L2
abbrev s_is_integer : Stmt := top 12
abbrev N_is_integer : List Str := ["thing"]
theorem sc_is_integer : FnScope N_is_integer ["thing"] (defScope s_is_integer) := ⟨rfl, rfl, rfl, by decide +kernel, rfl, by decide +kernel, by decide +kernel⟩

abbrev s_is_index : Stmt := top 13
abbrev N_is_index : List Str := ["thing", "many"]
theorem sc_is_index : FnScope N_is_index ["thing", "many"] (defScope s_is_index) := ⟨rfl, rfl, rfl, by decide +kernel, rfl, by decide +kernel, by decide +kernel⟩

abbrev s_are_worths : Stmt := top 17
abbrev N_are_worths : List Str := ["thing", "part"]
theorem sc_are_worths : FnScope N_are_worths ["thing"] (defScope s_are_worths) := ⟨rfl, rfl, rfl, by decide +kernel, rfl, by decide +kernel, by decide +kernel⟩

abbrev s_is_content : Stmt := top 18
abbrev N_is_content : List Str := ["thing"]
theorem sc_is_content : FnScope N_is_content ["thing"] (defScope s_is_content) := ⟨rfl, rfl, rfl, by decide +kernel, rfl, by decide +kernel, by decide +kernel⟩

abbrev s_is_width : Stmt := top 22
abbrev N_is_width : List Str := ["thing"]
theorem sc_is_width : FnScope N_is_width ["thing"] (defScope s_is_width) := ⟨rfl, rfl, rfl, by decide +kernel, rfl, by decide +kernel, by decide +kernel⟩

abbrev s_is_step : Stmt := top 23
abbrev N_is_step : List Str := ["cells", "thing", "first", "worths"]
theorem sc_is_step : FnScope N_is_step ["cells", "thing"] (defScope s_is_step) := ⟨rfl, rfl, rfl, by decide +kernel, rfl, by decide +kernel, by decide +kernel⟩

abbrev s_are_steps : Stmt := top 28
abbrev N_are_steps : List Str := ["cells", "width", "thing", "step"]
theorem sc_are_steps : FnScope N_are_steps ["cells", "width", "thing"] (defScope s_are_steps) := ⟨rfl, rfl, rfl, by decide +kernel, rfl, by decide +kernel, by decide +kernel⟩

/-- the module's constants -/
structure Cst (K : PySem.W.Frag) (mg : Str → Option Value) : Prop where
  cells : ∃ t, mg "MOST_CELLS" = some (.int 24 t)
  steps : ∃ t, mg "MOST_STEPS" = some (.int 40 t)
  pieces : ∃ t, mg "MOST_PIECES" = some (.int 40 t)
  worths : ∃ a, mg "ALL_WORTHS" = some (.ref a) ∧ ∀ H, SqT K H a (ivs [0, 1, 2, 3, 4, 5, 6, 7])
def sp_is_integer (K : PySem.W.Frag) : Sp := fun vs H Q _ => ∃ x n, vs = [x] ∧ Ty K H x n ∧ Q (.bl (decide (n = "int"))) H
def sp_is_index (K : PySem.W.Frag) : Sp := fun vs H Q _ => ∃ (x : V) (m : Int) (n : String), vs = [x, .int m] ∧ Ty K H x n ∧ Q (.bl (idxB m x)) H
def sp_is_width (K : PySem.W.Frag) : Sp := fun vs H Q _ => ∃ x n, vs = [x] ∧ Ty K H x n ∧ Q (.bl (widthB x)) H
def sp_are_worths (K : PySem.W.Frag) : Sp := fun vs H Q _ => ∃ x, vs = [x] ∧ Th K H 1 x ∧ ∀ H', Same H H' → Q (.bl (worthsB H x)) H'
def sp_is_content (K : PySem.W.Frag) : Sp := fun vs H Q _ => ∃ x, vs = [x] ∧ Th K H 1 x ∧ ∀ H', Same H H' → Q (.bl (contentB H x)) H'
def sp_is_step (K : PySem.W.Frag) : Sp := fun vs H Q _ => ∃ (m : Int) (x : V), vs = [.int m, x] ∧ Th K H 2 x ∧ ∀ H', Same H H' → Q (.bl (stepB H m x)) H'
def sp_are_steps (K : PySem.W.Frag) (spr : Sp) : Sp := fun vs H Q _ => ∃ (m wd : Int) (x : V), vs = [.int m, .int wd, x] ∧ Th K H 3 x ∧ (stepsB H m x = false → ∀ H', Same H H' → Q (.bl false) H') ∧ (stepsB H m x = true → ∀ H', Same H H' → spr [.int wd, x] H' Q E0)
section
variable {P : Program} {w : World} {K : PySem.W.Frag} {mg : Str → Option Value} {base : Heap}
theorem ok_is_integer {f : Addr} {fd : FuncData} (F : Fun K "is_integer" "is_integer" s_is_integer f fd) (T : Txt mg) : FnOk P w K mg base CX0 1 f fd ["thing"] (sp_is_integer K) := by
  refine F.ok sc_is_integer (fun vs H Q E h => ?_) (fun cdv A outer s H vs Q E hr h => ?_)
  · obtain ⟨_, _, rfl, _⟩ := h
    rfl
  obtain ⟨x, n, rfl, t, k⟩ := h
  refine ⟨_, (pss_one (ps_ret (pe_and (pe_callB call_isi' (by rfl) T.isinstance (by decide +kernel) (pa_cons (pv 0) (pa_cons (pe_bltn (v := .ty "int") (by rfl) T.int (by decide +kernel) rfl) pa_nil))) (pe_one (pe_not (pe_callB call_isi' (by rfl) T.isinstance (by decide +kernel) (pa_cons (pv 0) (pa_cons (pe_bltn (v := .ty "bool") (by rfl) T.bool (by decide +kernel) rfl) pa_nil)))))))), ?_⟩
  refine ⟨_, rfl, x, n, "int", rfl, t, by decide, _, rfl, ?_⟩
  cases c : isB n "int" with
  | true =>
    refine ⟨_, rfl, x, n, "bool", rfl, t, by decide, _, rfl, ?_⟩
    rw [int_one n t.mem c]
    exact k
  | false =>
    rw [int_two n t.mem c] at k
    exact k
theorem ok_is_index {f : Addr} {fd : FuncData} (F : Fun K "is_index" "is_index" s_is_index f fd) (T : Txt mg) (c_is_integer : Cal P w K mg base 1 "is_integer" ["thing"] (sp_is_integer K)) : FnOk P w K mg base CX0 2 f fd ["thing", "many"] (sp_is_index K) := by
  refine F.ok sc_is_index (fun vs H Q E h => ?_) (fun cdv A outer s H vs Q E hr h => ?_)
  · obtain ⟨_, _, _, rfl, _⟩ := h
    rfl
  obtain ⟨x, m, n, rfl, t, k⟩ := h
  refine ⟨_, (pss_one (ps_ret (pe_and (pe_cal c_is_integer hr (pa_cons (pv 0) pa_nil)) (pe_one (pe_chain op_le op_lt pe_int (pv 0) (pv 1)))))), ?_⟩
  refine ⟨_, rfl, x, n, rfl, t, _, rfl, ?_⟩
  by_cases c : n = "int"
  · rw [decide_eq_true c]
    obtain ⟨i, rfl⟩ := ty_int t c
    refine ⟨_, rfl, _, _, rfl, rfl, _, rfl, ?_⟩
    have e : idxB m (.int i) = (decide (0 ≤ i) && decide (i < m)) := rfl
    rw [e] at k
    cases c2 : decide ((0 : Int) ≤ i) with
    | true =>
      rw [c2] at k
      exact ⟨_, rfl, _, _, rfl, rfl, k⟩
    | false =>
      rw [c2] at k
      exact k
  · rw [decide_eq_false c]
    rw [idx_not (no_int t c)] at k
    exact k
theorem ok_is_width {f : Addr} {fd : FuncData} (F : Fun K "is_width" "is_width" s_is_width f fd) (T : Txt mg) (C : Cst K mg) (c_is_integer : Cal P w K mg base 1 "is_integer" ["thing"] (sp_is_integer K)) : FnOk P w K mg base CX0 2 f fd ["thing"] (sp_is_width K) := by
  obtain ⟨tk, c_MOST_CELLS⟩ := C.cells
  refine F.ok sc_is_width (fun vs H Q E h => ?_) (fun cdv A outer s H vs Q E hr h => ?_)
  · obtain ⟨_, _, rfl, _⟩ := h
    rfl
  obtain ⟨x, n, rfl, t, k⟩ := h
  refine ⟨_, (pss_one (ps_ret (pe_and (pe_cal c_is_integer hr (pa_cons (pv 0) pa_nil)) (pe_one (pe_chain op_le op_le pe_int (pv 0) (pe_glob (v := .int 24) rfl c_MOST_CELLS ⟨_, rfl⟩)))))), ?_⟩
  refine ⟨_, rfl, x, n, rfl, t, _, rfl, ?_⟩
  by_cases c : n = "int"
  · rw [decide_eq_true c]
    obtain ⟨i, rfl⟩ := ty_int t c
    refine ⟨_, rfl, _, _, rfl, rfl, _, rfl, ?_⟩
    have e : widthB (.int i) = (decide (1 ≤ i) && decide (i ≤ 24)) := rfl
    rw [e] at k
    cases c2 : decide ((1 : Int) ≤ i) with
    | true =>
      rw [c2] at k
      exact ⟨_, _, rfl, rfl, k⟩
    | false =>
      rw [c2] at k
      exact k
  · rw [decide_eq_false c]
    rw [width_not (no_int t c)] at k
    exact k
theorem ok_are_worths {f : Addr} {fd : FuncData} (F : Fun K "are_worths" "are_worths" s_are_worths f fd) (T : Txt mg) (C : Cst K mg) (c_is_index : Cal P w K mg base 2 "is_index" ["thing", "many"] (sp_is_index K)) : FnOk P w K mg base CX0 3 f fd ["thing"] (sp_are_worths K) := by
  obtain ⟨aw, aw_m, aw_s⟩ := C.worths
  refine F.ok sc_are_worths (fun vs H Q E h => ?_) (fun cdv A outer s H vs Q E hr h => ?_)
  · obtain ⟨_, rfl, _⟩ := h
    rfl
  obtain ⟨x, rfl, th, k⟩ := h
  obtain ⟨n, t⟩ := th.ty
  refine ⟨_, (pss_cons (ps_cut (ps_if (PW.pt (pw_or (pt_not (pt_val (pe_callB call_isi' (by rfl) T.isinstance (by decide +kernel) (pa_cons (pv 0) (pa_cons (pe_bltn (v := .ty "tuple") (by rfl) T.tuple (by decide +kernel) rfl) pa_nil))))) (pw_or1 (pt_not (pt_truth (pv 0) (by intro _; rfl))))))
      (pss_one (ps_ret pe_bl))
      pss_nil))
    (pss_one (ps_ret (pe_callB (cr_all rfl) (by rfl) T.all (by decide +kernel) (pa_cons (pe_lc (own := [("part", 1)]) (g := (gName 1)) (tt := tYes) rfl sc_are_worths.nd (pi_tup (pv 0)) (blkOk_by (own := [("part", 1)]) (N := N_are_worths) (sc := defScope s_are_worths) (by decide +kernel)) (fun _ _ _ _ _ => pg_name (i := 1) sc_are_worths.nd rfl (Or.inl rfl)) (fun _ _ _ _ _ => pts_nil) (fun _ _ _ _ _ => (pe_cal c_is_index hr (pa_cons (pv 1) (pa_cons (pe_callB (r := rLenK K) call_lenK (by rfl) T.len (by decide +kernel) (pa_cons (pe_glob (v := .ref aw) rfl aw_m rfl) pa_nil)) pa_nil))))) pa_nil))))), ?_⟩
  refine ⟨fun σ' H' => ∃ a xs, x = .ref a ∧ H a = some (.tup xs) ∧ xs ≠ [] ∧ σ' = [some x, none] ∧ H = H', ?_, ?_⟩
  · refine ⟨_, rfl, x, n, "tuple", rfl, t, by decide, _, rfl, ?_⟩
    by_cases c : n = "tuple"
    · obtain ⟨a, xs, rfl, ha⟩ := ty_tup t c
      have e : (!isB n "tuple") = false := by rw [c]; decide
      rw [e]
      refine ⟨_, rfl, !xs.isEmpty, .inr (.inl ⟨xs, SqT.of ha, rfl⟩), ?_⟩
      cases xs with
      | nil =>
        have z := k H (Same.refl H)
        rw [worths_at ha] at z
        exact z
      | cons y ys => exact ⟨a, _, rfl, ha, by simp, rfl, rfl⟩
    · rw [tup_not n t.mem c]
      have z := k H (Same.refl H)
      rw [worths_not t c] at z
      exact z
  · rintro _ _ ⟨a, xs, rfl, ha, hne, rfl, rfl⟩
    obtain ⟨hl, hy⟩ := th.2 a xs rfl (.inl ha)
    refine ⟨_, rfl, a, rfl, ⟨xs, SqT.of ha⟩, fun D hD => lc_tup (K := K) (a := a) (xs := xs) (fun i H' => Same H H' ∧ H' D = some (.lst ((xs.take i).map fun y => V.bl (idxB 8 y)))) ?_ ?_ ?_ ?_⟩
    · exact ⟨same_new hD, upd_same⟩
    · rintro i H' _ ⟨s1, _⟩
      exact SqT.of (s1 _ _ ha)
    · rintro i y H' hx ⟨s1, h1⟩
      obtain ⟨n1, t1⟩ := (hy y (List.mem_of_getElem? hx)).ty
      have il : i < xs.length := (List.getElem?_eq_some_iff.mp hx).1
      refine ⟨rfl, _, rfl, aw, _, rfl, .inr (aw_s H'), y, 8, n1, rfl, t1.same s1, _, h1, ?_, same_mut s1 hD, ?_⟩
      · rw [List.length_map, List.length_take]
        exact szl (by omega)
      · rw [upd_same, List.take_add_one, hx]
        simp
    · rintro H' ⟨s1, h1⟩
      rw [List.take_length] at h1
      have z := k H' s1
      rw [worths_at ha] at z
      refine ⟨D, xs.map (idxB 8), rfl, SqL.of (by rw [h1, List.map_map]; rfl), ?_⟩
      have e : (!xs.isEmpty && xs.all (idxB 8)) = (xs.map (idxB 8)).all id := by
        cases xs with
        | nil => exact absurd rfl hne
        | cons y ys => simp
      rw [e] at z
      exact z
theorem ok_is_content {f : Addr} {fd : FuncData} (F : Fun K "is_content" "is_content" s_is_content f fd) (T : Txt mg) (C : Cst K mg) (c_are_worths : Cal P w K mg base 3 "are_worths" ["thing"] (sp_are_worths K)) : FnOk P w K mg base CX0 4 f fd ["thing"] (sp_is_content K) := by
  obtain ⟨tk, c_MOST_CELLS⟩ := C.cells
  refine F.ok sc_is_content (fun vs H Q E h => ?_) (fun cdv A outer s H vs Q E hr h => ?_)
  · obtain ⟨_, rfl, _⟩ := h
    rfl
  obtain ⟨x, rfl, th, k⟩ := h
  refine ⟨_, (pss_one (ps_ret (pe_and (pe_cal c_are_worths hr (pa_cons (pv 0) pa_nil)) (pe_one (pe_cmpR op_le (pe_callB call_len' (by rfl) T.len (by decide +kernel) (pa_cons (pv 0) pa_nil)) (pe_glob (v := .int 24) rfl c_MOST_CELLS ⟨_, rfl⟩) (nomark _)))))), ?_⟩
  refine ⟨_, rfl, x, rfl, th, fun H1 s1 => ⟨_, rfl, ?_⟩⟩
  have z := k H1 s1
  unfold contentB at z
  cases c : worthsB H x with
  | true =>
    obtain ⟨a, xs, rfl, ha, _⟩ := worths_true c
    rw [c, len_at ha] at z
    refine ⟨_, rfl, a, xs, rfl, .inr (s1 _ _ ha), _, _, rfl, rfl, ?_⟩
    have e : decide (((xs.length : Nat) : Int) ≤ 24) = decide (xs.length ≤ 24) := decide_eq_decide.mpr (by omega)
    show Q (V.bl (decide (((xs.length : Nat) : Int) ≤ 24))) H1
    rw [e]
    exact z
  | false =>
    rw [c] at z
    exact z
theorem ok_is_step {f : Addr} {fd : FuncData} (F : Fun K "is_step" "is_step" s_is_step f fd) (T : Txt mg) (c_is_index : Cal P w K mg base 2 "is_index" ["thing", "many"] (sp_is_index K)) (c_are_worths : Cal P w K mg base 3 "are_worths" ["thing"] (sp_are_worths K)) : FnOk P w K mg base CX0 4 f fd ["cells", "thing"] (sp_is_step K) := by
  refine F.ok sc_is_step (fun vs H Q E h => ?_) (fun cdv A outer s H vs Q E hr h => ?_)
  · obtain ⟨_, _, rfl, _⟩ := h
    rfl
  obtain ⟨m, x, rfl, th, k⟩ := h
  obtain ⟨n, t⟩ := th.ty
  refine ⟨_, (pss_cons (ps_if (pt_cmpR op_isN (pv 1) pe_non (nomark _))
      (pss_one (ps_ret pe_bl))
      pss_nil)
    (pss_cons (ps_cut (ps_if (PW.pt (pw_or (pt_not (pt_val (pe_callB call_isi' (by rfl) T.isinstance (by decide +kernel) (pa_cons (pv 1) (pa_cons (pe_bltn (v := .ty "tuple") (by rfl) T.tuple (by decide +kernel) rfl) pa_nil))))) (pw_or1 (pt_cmpR op_ne (pe_callB call_len' (by rfl) T.len (by decide +kernel) (pa_cons (pv 1) pa_nil)) pe_int (nomark _)))))
      (pss_one (ps_ret pe_bl))
      pss_nil))
    (pss_cons (ps_asg (pv 1) (pg_tup rfl (pgs_cons (pg_name (i := 2) sc_is_step.nd rfl (Or.inl rfl)) (pgs_cons (pg_name (i := 3) sc_is_step.nd rfl (Or.inl rfl)) pgs_nil))))
    (pss_one (ps_ret (pe_and (pe_cal c_is_index hr (pa_cons (pv 2) (pa_cons (pv 0) pa_nil))) (pe_and (pe_cal c_are_worths hr (pa_cons (pv 3) pa_nil)) (pe_one (pe_cmpR op_le (pe_op op_add (pv 2) (pe_callB call_len' (by rfl) T.len (by decide +kernel) (pa_cons (pv 3) pa_nil))) (pv 0) (nomark _)))))))))), ?_⟩
  refine ⟨_, rfl, rfl, _, rfl, ite2 (fun c0 => ?_) (fun c0 => ?_)⟩
  · have e : x = .non := of_decide_eq_true c0
    subst e
    exact k H (Same.refl H)
  have xn : x ≠ .non := fun e => c0 (decide_eq_true e)
  refine ⟨fun σ' H' => ∃ a f ws, x = .ref a ∧ H a = some (.tup [f, ws]) ∧ σ' = [some (.int m), some x, none, none] ∧ H = H', ?_, ?_⟩
  · refine ⟨_, rfl, x, n, "tuple", rfl, t, by decide, _, rfl, ?_⟩
    by_cases c : n = "tuple"
    · obtain ⟨a, xs, rfl, ha⟩ := ty_tup t c
      have e : (!isB n "tuple") = false := by rw [c]; decide
      rw [e]
      refine ⟨_, rfl, a, xs, rfl, .inr ha, rfl, _, rfl, ite2 (fun c => ?_) (fun c => ?_)⟩
      · have z := k H (Same.refl H)
        have e2 : stepB H m (.ref a) = false := by
          unfold stepB
          simp only [ha]
          split
          · rename_i f ws e3
            cases e3
            exact absurd c (by show ¬ (!decide (V.int 2 = V.int 2)) = true; decide)
          · rfl
        rw [e2] at z
        exact z
      · have hl : xs.length = 2 := by
          have c' : ¬ (!decide (V.int ((xs.length : Nat) : Int) = V.int 2)) = true := c
          by_cases q : xs.length = 2
          · exact q
          · refine absurd ?_ c'
            rw [decide_eq_false (fun e => q (by injection e; omega))]
            rfl
        match xs, hl with
        | [f, ws], _ => exact ⟨a, f, ws, rfl, ha, rfl, rfl⟩
    · rw [tup_not n t.mem c]
      have z := k H (Same.refl H)
      have e2 : stepB H m x = false := by
        have z2 := no_tup t c
        cases x with
        | non => exact absurd rfl xn
        | ref a =>
          unfold stepB
          simp only
          split
          · rename_i e3
            exact absurd e3 (z2 a _ rfl)
          · rfl
        | _ => rfl
      rw [e2] at z
      exact z
  · rintro _ _ ⟨a, f, ws, rfl, ha, rfl, rfl⟩
    obtain ⟨hl, hy⟩ := th.2 a _ rfl (.inl ha)
    obtain ⟨n1, t1⟩ := (hy f (List.mem_cons_self)).ty
    have th2 := hy ws (List.mem_cons_of_mem _ List.mem_cons_self)
    have e2 : stepB H m (.ref a) = (idxB m f && worthsB H ws && addB m (lenB H ws) f) := by
      unfold stepB
      simp only [ha]
    refine ⟨_, rfl, a, _, rfl, SqT.of ha, rfl, _, _, rfl, _, _, rfl, rfl, ?_⟩
    refine ⟨_, rfl, _, rfl, f, m, n1, rfl, t1, _, rfl, ?_⟩
    rw [e2] at k
    cases c1 : idxB m f with
    | false =>
      rw [c1] at k
      exact k H (Same.refl H)
    | true =>
      rw [c1] at k
      refine ⟨_, rfl, ws, rfl, th2, fun H1 s1 => ⟨_, rfl, ?_⟩⟩
      have z := k H1 s1
      cases c2 : worthsB H ws with
      | false =>
        rw [c2] at z
        exact z
      | true =>
        rw [c2] at z
        obtain ⟨b, ys, rfl, hb, _⟩ := worths_true c2
        rw [len_at hb] at z
        cases f with
        | int i => exact ⟨_, rfl, _, rfl, b, ys, rfl, .inr (s1 _ _ hb), _, _, rfl, rfl, _, rfl, _, _, rfl, rfl, z⟩
        | _ => cases c1
theorem ok_are_steps {f : Addr} {fd : FuncData} {spr : Sp} (F : Fun K "are_steps" "are_steps" s_are_steps f fd) (T : Txt mg) (c_is_step : Cal P w K mg base 4 "is_step" ["cells", "thing"] (sp_is_step K)) (c_is_room : Cal P w K mg base 3 "is_room" ["width", "steps"] spr) : FnOk P w K mg base CX0 5 f fd ["cells", "width", "thing"] (sp_are_steps K spr) := by
  refine F.ok sc_are_steps (fun vs H Q E h => ?_) (fun cdv A outer s H vs Q E hr h => ?_)
  · obtain ⟨_, _, _, rfl, _⟩ := h
    rfl
  obtain ⟨m, wd, x, rfl, th, k0, k1⟩ := h
  obtain ⟨n, t⟩ := th.ty
  refine ⟨_, (pss_cons (ps_cut (ps_if (PW.pt (pw_or (pt_not (pt_val (pe_callB call_isi' (by rfl) T.isinstance (by decide +kernel) (pa_cons (pv 2) (pa_cons (pe_bltn (v := .ty "list") (by rfl) T.list (by decide +kernel) rfl) pa_nil))))) (pw_or1 (pt_not (pt_val (pe_callB (cr_all rfl) (by rfl) T.all (by decide +kernel) (pa_cons (pe_lc (own := [("step", 3)]) (g := (gName 3)) (tt := tYes) rfl sc_are_steps.nd (pi_list (pv 2)) (blkOk_by (own := [("step", 3)]) (N := N_are_steps) (sc := defScope s_are_steps) (by decide +kernel)) (fun _ _ _ _ _ => pg_name (i := 3) sc_are_steps.nd rfl (Or.inl rfl)) (fun _ _ _ _ _ => pts_nil) (fun _ _ _ _ _ => (pe_cal c_is_step hr (pa_cons (pv 0) (pa_cons (pv 3) pa_nil))))) pa_nil)))))))
      (pss_one (ps_ret pe_bl))
      pss_nil))
    (pss_one (ps_ret (pe_cal c_is_room hr (pa_cons (pv 1) (pa_cons (pv 2) pa_nil)))))), ?_⟩
  refine ⟨fun σ' H' => stepsB H m x = true ∧ σ' = [some (.int m), some (.int wd), some x, none] ∧ Same H H', ?_, ?_⟩
  · refine ⟨_, rfl, x, n, "list", rfl, t, by decide, _, rfl, ?_⟩
    by_cases c : n = "list"
    · obtain ⟨a, xs, rfl, ha⟩ := ty_lst t c
      obtain ⟨hl, hy⟩ := th.2 a xs rfl (.inr ha)
      have e : isB n "list" = true := by rw [c]; decide
      rw [e]
      refine ⟨_, rfl, a, rfl, ⟨xs, SqL.of ha⟩, fun D hD => lc_list (K := K) (a := a) (xs := xs) (fun i H' => Same H H' ∧ H' D = some (.lst ((xs.take i).map fun y => V.bl (stepB H m y)))) ?_ ?_ ?_ ?_⟩
      · exact ⟨same_new hD, upd_same⟩
      · rintro i H' _ ⟨s1, _⟩
        exact SqL.of (s1 _ _ ha)
      · rintro i y H' hx ⟨s1, h1⟩
        have th2 := hy y (List.mem_of_getElem? hx)
        have il : i < xs.length := (List.getElem?_eq_some_iff.mp hx).1
        refine ⟨rfl, _, rfl, _, rfl, m, y, rfl, th2.same s1, fun H2 s2 => ⟨_, s2 _ _ h1, ?_, same_mut (s1.trans s2) hD, ?_⟩⟩
        · rw [List.length_map, List.length_take]
          exact szl (by omega)
        · rw [upd_same, List.take_add_one, hx, step_same th2 s1]
          simp
      · rintro H' ⟨s1, h1⟩
        rw [List.take_length] at h1
        have e2 : stepsB H m (.ref a) = (xs.map (stepB H m)).all id := by
          unfold stepsB
          simp only [ha]
          simp
        refine ⟨D, xs.map (stepB H m), rfl, SqL.of (by rw [h1, List.map_map]; rfl), ?_⟩
        rw [← e2]
        refine ⟨_, rfl, ?_⟩
        cases e3 : stepsB H m (.ref a) with
        | true => exact iteF ⟨rfl, rfl, s1⟩
        | false => exact iteT (k0 e3 H' s1)
    · rw [lst_not n t.mem c]
      have e2 : stepsB H m x = false := by
        cases x with
        | ref a =>
          unfold stepsB
          simp only
          split
          · rename_i e3
            exact absurd (ty_is_lst t e3) c
          · rfl
        | _ => rfl
      exact k0 e2 H (Same.refl H)
  · rintro _ H1 ⟨e3, rfl, s1⟩
    exact ⟨_, rfl, _, rfl, k1 e3 H1 s1⟩
end
end Af

set_option Elab.async false
set_option linter.all false
set_option maxRecDepth 100000
namespace Af
open PySem PySem.Calls PySem.Spec PyProof.Rows L2
/-! == and != of an instance whose class has its own __eq__ and no __ne__ -/
section
variable {M : Model} {prog : Program} {w : World} {A : Around} {E : Value → Shared → Prop} {s : Shared} {K : PySem.W.Frag} {x C L f : Addr} {ox : Obj} {od : Option Obj} {b tb : Value} {h₀ : Heap} {m : Str → Option Value}
theorem ifBound_ne {args : List Value} {Q : Option Value → Shared → Prop} (X : K.In s.heap) (I : PySem.W.InstAt s.heap x ox C od) (hs : PySem.W.findIn K (.ref C) "__ne__" = some (some (.builtin "object.__ne__")))
    (h : wpAny M A (call (.builtin "object.__ne__") (.ref x :: args)) (fun v => Q (some v)) E s) : wpAny M A (callSpecialIfBound? (.ref x) "__ne__" args) Q E s := by
  simp only [callSpecialIfBound?, bindSpecialIfBound?]
  refine wpAny_holding (wpAny_bind (wpAny_bind (wpAny_bind (I.type.here ((PySem.W.looks_findIn X hs).here ?_)))))
  refine wpAny_bind (wpAny_askSetting (wpAny_ite ?_))
  have last : wpAny M A (call (.builtin "object.__ne__") ([.ref x] ++ args) >>= fun v => pure (some v)) Q E s := wpAny_bind (wpAny_mono h (fun _ _ q => wpAny_pure q) fun _ _ q => q)
  split
  · exact wpAny_bind (wpAny_of_eq (F.cmp_object.ne.bind _) (wpAny_pure (by exact last)))
  · exact wpAny_tryCatch (wpAny_bind (wpAny_of_eq (F.cmp_object.ne.bind _) (wpAny_pure (by exact last))))
theorem entry_ne {Q : Fin → Shared → Prop} (hu : A.units < cLine) (X : K.In s.heap) (I : PySem.W.InstAt s.heap x ox C od) (hs : PySem.W.findIn K (.ref C) "__eq__" = some (some (.ref f))) (hf : PySem.W.isFn K (.ref f) = true)
    (h : wpAny (model prog w) A (call (.ref f) [.ref x, b]) (fun v s' => ∃ r, v = .bool r ∧ Q (.done (.ret (.bool (!r)))) s') E s) :
    wpAny (model prog w) A (Builtin.«object.__ne__» ⟨[.ref x, b], []⟩) Q E s := by
  unfold Builtin.«object.__ne__»
  repeat (first
    | with_reducible refine wpAny_cRoomFor hu ?_
    | (refine wpAny_bind (m := callSpecialIfBound? (.ref x) (Str.ofString "__eq__") [b])
        (PySem.W.ifBound_K X I hs hf (wpAny_mono h (fun r s' hr => by
          obtain ⟨b, rfl, hq⟩ := hr
          repeat (first | exact hq | exact wpAny_pure hq | exact wpAny_truthy_bool hq | (refine wpAny_bind (m := truthy (.bool _)) (wpAny_truthy_bool ?_)) | wp_step)) fun _ _ e => e)))
    | wp_step)
theorem rc_ne {Q : Value → Shared → Prop} (hu : A.units + 1 < cLine) (Y : PyProof.Rows.Fr h₀ L s.heap m) (X₀ : K.In h₀) (I : PySem.W.InstAt s.heap x ox C od) (hb : PySem.W.Looks (model prog w) s.heap (typeOf b) tb) (hn : PySem.W.notFirst K C tb = true)
    (hs : PySem.W.findIn K (.ref C) "__eq__" = some (some (.ref f))) (hf : PySem.W.isFn K (.ref f) = true) (hne : PySem.W.findIn K (.ref C) "__ne__" = some (some (.builtin "object.__ne__"))) (hm : PySem.W.mroIn K C (.type "object") = some true)
    (h : wpAny (model prog w) A.in1 (call (.ref f) [.ref x, b]) (fun v s' => ∃ r, v = .bool r ∧ Q (.bool (!r)) s') E s) : wpAny (model prog w) A (richCompare .NotEq (.ref x) b) Q E s := by
  have X := X₀.keeps Y.keep
  have one : wpAny (model prog w) A (tryCompare (.ref x) "__ne__" b) (fun r s' => ∃ v, r = some v ∧ Q v s') E s := by
    unfold tryCompare
    refine wpAny_bind (ifBound_ne X I hne (wpAny_call (codeAny_call_builtin F.cmp_object.ne.plain F.cmpEntry_ne (PySem.W.check_slot F.cmpKind_ne F.cmpSplit_ne (I.type.andThen (PySem.W.looks_mroIn X hm)) (F.cmpArgs_ne _ _) (entry_ne (A := A.in1) hu X I hs hf (wpAny_mono h (fun v s' z => ?_) fun _ _ e => e))))))
    obtain ⟨r, rfl, hq⟩ := z
    exact ⟨r, rfl, wpAny_pure ⟨_, rfl, hq⟩⟩
  unfold richCompare
  simp only [oneThing_ref]
  refine wpAny_holding (wpAny_bind (wpAny_cRoomFor (Nat.lt_of_succ_lt hu) ?_))
  refine wpAny_bind (I.type.here (wpAny_bind (hb.here ?_)))
  have go : wpAny (model prog w) A (tryCompare (.ref x) "__ne__" b) (fun r s' => ∃ v, r = some v ∧ Q v s') E s := one
  split
  · rename_i q
    have e : PySem.W.subIn K tb (.ref C) = some false := by
      rcases Bool.or_eq_true_iff.mp hn with e | e
      · rw [beq_iff_eq.mp e] at q; simp at q
      · exact beq_iff_eq.mp e
    refine wpAny_bind ((PySem.W.looks_subIn X e).here ?_)
    simp only [Bool.false_eq_true, if_false]
    refine wpAny_bind (wpAny_mono one (fun r s' z => ?_) fun _ _ e => e)
    obtain ⟨v, rfl, hq⟩ := z
    exact wpAny_pure hq
  · refine wpAny_bind (wpAny_pure ?_)
    simp only [Bool.false_eq_true, if_false]
    refine wpAny_bind (wpAny_mono one (fun r s' z => ?_) fun _ _ e => e)
    obtain ⟨v, rfl, hq⟩ := z
    exact wpAny_pure hq
end
/-- what is asked of the class at C for its own == -/
structure OwnEqC (K : PySem.W.Frag) (C f : Addr) : Prop where
  eq : PySem.W.findIn K (.ref C) "__eq__" = some (some (.ref f))
  fn : PySem.W.isFn K (.ref f) = true
  ne : PySem.W.findIn K (.ref C) "__ne__" = some (some (.builtin "object.__ne__"))
  ob : PySem.W.mroIn K C (.type "object") = some true
/-- x == y where x is an instance: what the own __eq__ promises, which answers a bool -/
def rOwnEq (K : PySem.W.Frag) (C : Addr) (sp : Sp) : R2 := fun x y H Q => ∃ a dx fs t, x = .ref a ∧ H a = some (.ins C dx fs) ∧ TyX K H y t ∧ PySem.W.notFirst K C t = true ∧ sp [x, y] H (fun v H' => ∃ b, v = .bl b ∧ Q (.bl b) H') E0
def rOwnNe (K : PySem.W.Frag) (C : Addr) (sp : Sp) : R2 := fun x y H Q => ∃ a dx fs t, x = .ref a ∧ H a = some (.ins C dx fs) ∧ TyX K H y t ∧ PySem.W.notFirst K C t = true ∧ sp [x, y] H (fun v H' => ∃ b, v = .bl b ∧ Q (.bl (!b)) H') E0
section
variable {X : Cx} {C f : Addr} {fd : FuncData} {ps : List Str} {sp : Sp} {k n : Nat}
theorem own_run (G : FnOk X.prog X.w X.K X.mg X.base CX0 k f fd ps sp) (hb : Binds X.K fd ps []) {A : Around} (hr : Room k A) (hA : A.frames = X.A.frames) {pins : List (Addr × Obj)} {s : Shared} {σ : L2.St} {H : Hp} {x y : V} {v u : Value} (I : Inv X pins σ H s) (rx : RelV x v) (ry : RelV y u)
    {Q : VK} (hq : sp [x, y] H Q E0) : wpAny (model X.prog X.w) A (call (.ref f) [v, u]) (fun r s' => EP X pins σ Q r s') X.xe s := by
  have e0 : Env0 X.prog X.w X.K X.mg X.base A X.stack s H := by
    have e := I.env0
    exact ⟨by rw [hA]; exact e.frames, e.mod, e.bs, e.bsz, e.funs, e.frf, e.hok, e.bare⟩
  have hl := G.len _ _ _ _ hq
  refine wpAny_call (codeAny_mono (G.run A X.stack s H ⟨[v, u], []⟩ [v, u] [x, y] _ E0 hr e0 (by
    have := hb s [v, u] I.kIn (by simpa using hl)
    simpa using this) (.cons rx (.cons ry .nil)) hq) fun r s' z => ?_)
  cases r with
  | error e => exact pass0 pins σ H s e s' I z
  | ok fl =>
    cases fl with
    | ret w => exact I.after z
    | next => exact False.elim z
    | brk => exact False.elim z
    | cont => exact False.elim z
theorem op_ownEq (O : OwnEqC X.K C f) (G : FnOk X.prog X.w X.K X.mg X.base CX0 k f fd ps sp) (hb : Binds X.K fd ps []) (hr : Room n X.A) (hkn : k ≤ n := by decide) : OpR X (compareOp .Eq) (rOwnEq X.K C sp) := by
  intro pins s σ H x y v u Q I rx ry h
  obtain ⟨a, dx, fs, t, rfl, ha, ty, nf, q⟩ := h
  cases (show v = Value.ref a from rx)
  obtain ⟨mA, J, _⟩ := ins_get I.hok ha
  obtain ⟨od, J, _⟩ := J.look
  obtain ⟨P, Z, p, _⟩ := kit_of I ry ty
  obtain ⟨m, hF⟩ := I.fr
  have lk := Z.ty (model X.prog X.w) s.heap I.kIn p
  show wpAny (model X.prog X.w) X.A (richCompare .Eq (.ref a) u) (EP X pins σ Q) X.xe s
  refine PySem.W.cmp_K (op := .Eq) (tb := t) hr.units0 hF I.ok.mod.kin J lk nf O.eq O.fn ?_
  refine wpAny_mono (own_run G hb (hr.mono hkn) rfl (x := .ref a) (v := .ref a) I rfl ry q) (fun r s' z => ?_) fun _ _ z => z
  obtain ⟨v', H', I', rv, b, e, z⟩ := z
  subst e
  cases (show r = Value.bool b from rv)
  exact ⟨.bl b, H', I', rfl, z⟩
theorem op_ownNe (O : OwnEqC X.K C f) (G : FnOk X.prog X.w X.K X.mg X.base CX0 k f fd ps sp) (hb : Binds X.K fd ps []) (hr : Room n X.A) (hkn : k + 1 ≤ n := by decide) : OpR X (compareOp .NotEq) (rOwnNe X.K C sp) := by
  intro pins s σ H x y v u Q I rx ry h
  obtain ⟨a, dx, fs, t, rfl, ha, ty, nf, q⟩ := h
  cases (show v = Value.ref a from rx)
  obtain ⟨mA, J, _⟩ := ins_get I.hok ha
  obtain ⟨od, J, _⟩ := J.look
  obtain ⟨P, Z, p, _⟩ := kit_of I ry ty
  obtain ⟨m, hF⟩ := I.fr
  have lk := Z.ty (model X.prog X.w) s.heap I.kIn p
  show wpAny (model X.prog X.w) X.A (richCompare .NotEq (.ref a) u) (EP X pins σ Q) X.xe s
  have hr' : Room (k + 1) X.A := hr.mono hkn
  refine rc_ne (tb := t) hr'.in1.units0 hF I.ok.mod.kin J lk nf O.eq O.fn O.ne O.ob ?_
  refine wpAny_mono (own_run G hb hr'.in1 rfl (x := .ref a) (v := .ref a) I rfl ry q) (fun r s' z => ?_) fun _ _ z => z
  obtain ⟨v', H', I', rv, b, e, z⟩ := z
  subst e
  cases (show r = Value.bool b from rv)
  exact ⟨b, rfl, .bl (!b), H', I', rfl, z⟩
end
end Af

set_option Elab.async false
set_option linter.all false
set_option maxRecDepth 100000
set_option maxHeartbeats 4000000
namespace Af
open PySem L2
abbrev s_is_room : Stmt := top 24
abbrev N_is_room : List Str := ["width", "steps"]
theorem sc_is_room : FnScope N_is_room ["width", "steps"] (defScope s_is_room) := ⟨rfl, rfl, rfl, by decide +kernel, rfl, by decide +kernel, by decide +kernel⟩

abbrev s_Plan___init : Stmt := inClass (top 29) 0
abbrev N_Plan___init : List Str := ["self", "base", "width", "steps", "epochs", "piece"]
theorem sc_Plan___init : FnScope N_Plan___init ["self", "base", "width", "steps"] (defScope s_Plan___init) := ⟨rfl, rfl, rfl, by decide +kernel, rfl, by decide +kernel, by decide +kernel⟩

/-- what the text has written of the class -/
structure PlanC (K : PySem.W.Frag) (mg : Str → Option Value) (C : Addr) : Prop where
  cl : Cls K C
  nB : NoAttr K C "_base"
  nW : NoAttr K C "_width"
  nS : NoAttr K C "_steps"
  nP : NoAttr K C "_pieces"
  nE : NoAttr K C "_piece_epochs"
  nN : NoAttr K C "_epochs"
  mgC : mg "Plan" = some (.ref C)
  is1 : PySem.W.kitOne K (.ref C) (.ref C) = some true
  is0 : ∀ n ∈ tyNames, PySem.W.kitOne K (.type n) (.ref C) = some false
  first : ∀ n ∈ tyNames, PySem.W.notFirst K C (.type n) = true
  ha : PySem.W.findIn K (.ref C) "__class__" = some (some (.builtin "object.__class__"))
  hn : PySem.W.specialIn K (.builtin "object.__class__") "__get__" = some (some (.builtin "getset_descriptor.__get__"))
  htk : PySem.W.takesIn K (.builtin "object.__class__") = some true
  hm : PySem.W.mroIn K C (.type "object") = some true
theorem PlanC.ty {K : PySem.W.Frag} {mg : Str → Option Value} {C a dx : Addr} {fs : List (Str × V)} {H : Hp} (T : PlanC K mg C) (h : H a = some (.ins C dx fs)) : TyX K H (.ref a) (.ref C) := .base (.ins h T.cl T.ha T.hn T.htk T.hm)
/-- the parts of a plan that the program takes -/
structure OkP (pl : Pl) : Prop where
  c1 : 1 ≤ pl.cs.length
  c24 : pl.cs.length ≤ 24
  cb : ∀ z ∈ pl.cs, 0 ≤ z ∧ z < 8
  w1 : 1 ≤ pl.w
  w24 : pl.w ≤ 24
  st : ∀ x ∈ pl.sts, OkS pl.cs.length x
  sl : pl.sts.length ≤ 40
  pc : (allP pl.w 0 pl.sts).length ≤ 40
def sp_roomX : Sp := fun vs H Q _ => ∃ (wd : Int) (a : Addr) (xs : List V) (sts : List Stp), vs = [.int wd, .ref a] ∧ H a = some (.lst xs) ∧ Paired (StepV H) xs sts ∧ 0 < wd ∧ xs.length ≤ 40 ∧ (∀ x ∈ sts, OkS 24 x) ∧ (allP wd 0 sts).length ≤ 40 ∧
  ∀ H', Same H H' → Q (.bl true) H'
/-- the epoch of each piece -/
def pieceE (sts : List Stp) (ps : List (Int × (Int × List Int))) : List Int := ps.map fun p => ((eps 0 sts)[p.1.toNat]?).getD 0
theorem allP_in {w : Int} : ∀ {l : List Stp} {i : Nat} {p : Int × (Int × List Int)}, p ∈ allP w i l → ∃ j : Nat, p.1 = (j : Int) ∧ i ≤ j ∧ j < i + l.length
  | [], _, _, h => by cases h
  | a :: l, i, p, h => by
    have h' : p ∈ oneP w i a ++ allP w (i + 1) l := h
    rcases List.mem_append.mp h' with h | h
    · cases a with
      | none => cases h
      | some fw =>
        obtain ⟨f, ws⟩ := fw
        obtain ⟨y, _, rfl⟩ := List.mem_map.mp h
        exact ⟨i, rfl, Nat.le_refl _, by rw [List.length_cons]; omega⟩
    · obtain ⟨j, h1, h2, h3⟩ := allP_in h
      exact ⟨j, h1, by omega, by rw [List.length_cons]; omega⟩
def sp_initX (C : Addr) : Sp := fun vs H Q _ => ∃ (x dx ca sa : Addr) (pl : Pl) (xs : List V), vs = [.ref x, .ref ca, .int pl.w, .ref sa] ∧ H x = some (.ins C dx []) ∧ H ca = some (.tup (ivs pl.cs)) ∧ H sa = some (.lst xs) ∧ Paired (StepV H) xs pl.sts ∧ OkP pl ∧
  ∀ H' (sl ql el : Addr) (fs : List (Str × V)) (ys : List V), (∀ a o, a ≠ x → H a = some o → H' a = some o) → H sl = none → H ql = none → H el = none → H' x = some (.ins C dx fs) → fs.lookup ("_base" : Str) = some (.ref ca) → fs.lookup ("_width" : Str) = some (.int pl.w) → fs.lookup ("_steps" : Str) = some (.ref sl) →
    fs.lookup ("_pieces" : Str) = some (.ref ql) → fs.lookup ("_piece_epochs" : Str) = some (.ref el) → fs.lookup ("_epochs" : Str) = some (.int ((bars pl.sts : Nat) + 1)) → fs.lookup ("epoch_of" : Str) = none → H' sl = some (.lst xs) → H' ql = some (.lst ys) → Paired (PieceA H') ys (allP pl.w 0 pl.sts) → H' el = some (.lst (ivs (pieceE pl.sts (allP pl.w 0 pl.sts)))) → Q .non H'
theorem all_idx {ns : List Int} {m : Int} (h : ∀ z ∈ ns, 0 ≤ z ∧ z < m) : (ivs ns).all (idxB m) = true := by
  refine List.all_eq_true.mpr fun x hx => ?_
  obtain ⟨z, hz, rfl⟩ := List.mem_map.mp hx
  obtain ⟨a, b⟩ := h z hz
  show (decide (0 ≤ z) && decide (z < m)) = true
  rw [decide_eq_true a, decide_eq_true b]
  rfl
theorem ivs_ne {ns : List Int} (h : ns ≠ []) : (!(ivs ns).isEmpty) = true := by
  cases ns with
  | nil => exact absurd rfl h
  | cons a b => rfl
theorem th_ints {K : PySem.W.Frag} {H : Hp} {a : Addr} {ns : List Int} (h : H a = some (.tup (ivs ns))) (hl : ns.length ≤ 100000) {d : Nat} : Th K H (d + 1) (.ref a) := by
  refine th_tup h (by rw [ivs_len]; exact hl) fun y hy => ?_
  obtain ⟨z, _, rfl⟩ := List.mem_map.mp hy
  exact th_int
theorem content_ok {H : Hp} {a : Addr} {ns : List Int} (h : H a = some (.tup (ivs ns))) (c1 : 1 ≤ ns.length) (c2 : ns.length ≤ 24) (cb : ∀ z ∈ ns, 0 ≤ z ∧ z < 8) : contentB H (.ref a) = true := by
  unfold contentB
  rw [worths_at h, len_at h, ivs_ne (fun z => by rw [z] at c1; exact absurd c1 (by decide)), all_idx cb, ivs_len, decide_eq_true c2]
  rfl
theorem width_ok {w : Int} (h1 : 1 ≤ w) (h2 : w ≤ 24) : widthB (.int w) = true := by
  show (decide (1 ≤ w) && decide (w ≤ 24)) = true
  rw [decide_eq_true h1, decide_eq_true h2]
  rfl
theorem step_ok {H : Hp} {x : V} {st : Stp} {n : Nat} (h : StepV H x st) (o : OkS n st) : stepB H (n : Int) x = true := by
  cases st with
  | none =>
    have e : x = .non := h
    subst e
    rfl
  | some fw =>
    obtain ⟨f, ws⟩ := fw
    obtain ⟨a, b, rfl, h1, h2⟩ := h
    obtain ⟨o1, o2, o3, o4⟩ := o
    have hp : 0 < ws.length := List.length_pos_iff.mpr o2
    have e : stepB H (n : Int) (.ref a) = (idxB (n : Int) (.int f) && worthsB H (.ref b) && addB (n : Int) (lenB H (.ref b)) (.int f)) := by
      unfold stepB
      simp only [h1]
    rw [e, worths_at h2, len_at h2, ivs_ne o2, all_idx o4, ivs_len]
    show ((decide (0 ≤ f) && decide (f < (n : Int))) && (true && true) && decide (f + (ws.length : Int) ≤ (n : Int))) = true
    rw [decide_eq_true o1, decide_eq_true o3, decide_eq_true (by omega)]
    rfl
theorem th_step {K : PySem.W.Frag} {H : Hp} {x : V} {st : Stp} {n : Nat} (h : StepV H x st) (o : OkS n st) (hn : n ≤ 1000) : Th K H 2 x := by
  cases st with
  | none =>
    have e : x = .non := h
    subst e
    exact th_non
  | some fw =>
    obtain ⟨f, ws⟩ := fw
    obtain ⟨a, b, rfl, h1, h2⟩ := h
    obtain ⟨o1, o2, o3, o4⟩ := o
    refine th_tup h1 (by show 2 ≤ 100000; decide) fun y hy => ?_
    simp only [List.mem_cons, List.not_mem_nil, or_false] at hy
    rcases hy with rfl | rfl
    · exact th_int
    · exact th_ints h2 (by omega)
theorem paired_mem {α β : Type} {F : α → β → Prop} : ∀ {a : List α} {b : List β} {x : α}, Paired F a b → x ∈ a → ∃ y, y ∈ b ∧ F x y
  | _, _, _, .nil, h => by simp at h
  | _, _, x, .cons r t, h => by
    rcases List.mem_cons.mp h with rfl | h
    · exact ⟨_, List.mem_cons_self, r⟩
    · obtain ⟨y, h1, h2⟩ := paired_mem t h
      exact ⟨y, List.mem_cons_of_mem _ h1, h2⟩
theorem steps_ok {H : Hp} {a : Addr} {xs : List V} {sts : List Stp} {n : Nat} (h : H a = some (.lst xs)) (hst : Paired (StepV H) xs sts) (ok : ∀ x ∈ sts, OkS n x) : stepsB H (n : Int) (.ref a) = true := by
  have e : stepsB H (n : Int) (.ref a) = xs.all (stepB H (n : Int)) := by
    unfold stepsB
    simp only [h]
  rw [e]
  refine List.all_eq_true.mpr fun x hx => ?_
  obtain ⟨st, h1, h2⟩ := paired_mem hst hx
  exact step_ok h2 (ok st h1)
theorem th_steps {K : PySem.W.Frag} {H : Hp} {a : Addr} {xs : List V} {sts : List Stp} {n : Nat} (h : H a = some (.lst xs)) (hl : xs.length ≤ 100000) (hst : Paired (StepV H) xs sts) (ok : ∀ x ∈ sts, OkS n x) (hn : n ≤ 1000) : Th K H 3 (.ref a) := by
  refine th_lst h hl fun y hy => ?_
  obtain ⟨st, h1, h2⟩ := paired_mem hst hy
  exact th_step h2 (ok st h1) hn
theorem ok24 {n : Nat} {st : Stp} (h : OkS n st) (hn : n ≤ 24) : OkS 24 st := by
  cases st with
  | none => exact True.intro
  | some fw =>
    obtain ⟨f, ws⟩ := fw
    obtain ⟨o1, o2, o3, o4⟩ := h
    exact ⟨o1, o2, by omega, o4⟩
/-- fields that are set one after the other -/
def fs6 (ca : Addr) (w : Int) (sl pl pe : Addr) (n : V) : List (Str × V) := putF "_epochs" n (putF "_piece_epochs" (.ref pe) (putF "_pieces" (.ref pl) (putF "_steps" (.ref sl) (putF "_width" (.int w) (putF "_base" (.ref ca) [])))))
/-- all but the object at x stands -/
def Ko (x : Addr) (H H' : Hp) : Prop := ∀ a o, a ≠ x → H a = some o → H' a = some o
theorem Ko.same {x : Addr} {H H1 H2 : Hp} (k : Ko x H H1) (s : Same H1 H2) : Ko x H H2 := fun a o n e => s _ _ (k a o n e)
theorem Ko.upd {x : Addr} {H H1 : Hp} {o : HO} (k : Ko x H H1) : Ko x H (L2.upd H1 x o) := fun a u n e => by
  rw [upd_ne n]
  exact k a u n e
theorem steps_ko {x C dx : Addr} {fs : List (Str × V)} {H H' : Hp} (k : Ko x H H') (hx : H x = some (.ins C dx fs)) {xs : List V} {sts : List Stp} (h : Paired (StepV H) xs sts) : Paired (StepV H') xs sts := L2.Paired.mapP h fun v st z => by
  have nt : ∀ {a : Addr} {l : List V}, H a = some (.tup l) → H' a = some (.tup l) := fun {a l} e => k a _ (ne_of e hx (by intro q; cases q)) e
  cases st with
  | none => exact z
  | some fw =>
    obtain ⟨f, ws⟩ := fw
    obtain ⟨a, b, e, h1, h2⟩ := z
    exact ⟨a, b, e, nt h1, nt h2⟩
theorem int_in {ns : List Int} {j : Nat} (h : j < ns.length) : ∃ z : Int, (ivs ns)[j]? = some (.int z) := ⟨_, ivs_get h⟩
theorem len_put {f : Str} {v : V} {fs : List (Str × V)} {n : Nat} (h : fs.length ≤ n) : (putF f v fs).length ≤ n + 1 := Nat.le_trans (length_putF f v fs) (Nat.succ_le_succ h)
theorem put_at {f : Str} {v : V} {fs : List (Str × V)} : (putF f v fs).lookup f = some v := by
  rw [lookup_putF, if_pos rfl]
theorem put_no {f g : Str} {v u : V} {fs : List (Str × V)} (h : fs.lookup g = some u) (n : ¬ g = f := by decide +kernel) : (putF f v fs).lookup g = some u := by
  rw [lookup_putF, if_neg n]
  exact h
section
variable {P : Program} {w : World} {K : PySem.W.Frag} {mg : Str → Option Value} {base : Heap}
theorem ok_roomX {f : Addr} {fd : FuncData} (F : Fun K "is_room" "is_room" s_is_room f fd) (T : Txt mg) (C : Cst K mg) (c_pieces_of : Cal P w K mg base 2 "_pieces_of" ["width", "steps"] sp_piecesX) : FnOk P w K mg base CX0 3 f fd ["width", "steps"] sp_roomX := by
  obtain ⟨tk1, c_MOST_STEPS⟩ := C.steps
  obtain ⟨tk2, c_MOST_PIECES⟩ := C.pieces
  refine F.ok sc_is_room (fun vs H Q E h => ?_) (fun cdv A outer s H vs Q E hr h => ?_)
  · obtain ⟨_, _, _, _, rfl, _⟩ := h
    rfl
  obtain ⟨wd, a, xs, sts, rfl, ha, hst, w0, xl, ok, tl, k⟩ := h
  refine ⟨_, (pss_one (ps_ret (pe_and (pe_cmpR op_le (pe_callB call_len' (by rfl) T.len (by decide +kernel) (pa_cons (pv 1) pa_nil)) (pe_glob (v := .int 40) rfl c_MOST_STEPS ⟨_, rfl⟩) (nomark _)) (pe_one (pe_cmpR op_le (pe_callB call_len' (by rfl) T.len (by decide +kernel) (pa_cons (pe_cal c_pieces_of hr (pa_cons (pv 0) (pa_cons (pv 1) pa_nil))) pa_nil)) (pe_glob (v := .int 40) rfl c_MOST_PIECES ⟨_, rfl⟩) (nomark _)))))), ?_⟩
  refine ⟨_, rfl, a, xs, rfl, .inl ha, _, _, rfl, rfl, _, rfl, ?_⟩
  have e1 : decide (((xs.length : Nat) : Int) ≤ 40) = true := decide_eq_true (by omega)
  rw [e1]
  refine iteT ⟨_, rfl, _, rfl, wd, a, xs, sts, rfl, ha, hst, w0, by omega, ok, fun l H1 ys s1 hl h1 p1 => ?_⟩
  have yl := paired_len p1
  refine ⟨l, ys, rfl, .inl h1, _, _, rfl, rfl, ?_⟩
  have e2 : decide (((ys.length : Nat) : Int) ≤ 40) = true := decide_eq_true (by omega)
  show Q (V.bl (decide (((ys.length : Nat) : Int) ≤ 40))) H1
  rw [e2]
  exact k H1 s1
theorem ok_initX {f C : Addr} {fd : FuncData} (F : Fun K "__init__" "Plan.__init__" s_Plan___init f fd) (T : Txt mg) (TC : PlanC K mg C)
    (c_is_content : Cal P w K mg base 4 "is_content" ["thing"] (sp_is_content K)) (c_is_width : Cal P w K mg base 2 "is_width" ["thing"] (sp_is_width K)) (c_are_steps : Cal P w K mg base 5 "are_steps" ["cells", "width", "thing"] (sp_are_steps K sp_roomX))
    (c_epochs_of : Cal P w K mg base 1 "_epochs_of" ["steps"] sp_epochsX) (c_pieces_of : Cal P w K mg base 2 "_pieces_of" ["width", "steps"] sp_piecesX) :
    FnOk P w K mg base CX0 6 f fd ["self", "base", "width", "steps"] (sp_initX C) := by
  refine F.ok sc_Plan___init (fun vs H Q E h => ?_) (fun cdv A outer s H vs Q E hr h => ?_)
  · obtain ⟨_, _, _, _, _, _, rfl, _⟩ := h
    rfl
  obtain ⟨x, dx, ca, sa, pl, xs, rfl, hx, hca, hsa, hst, gd, k⟩ := h
  refine ⟨_, (pss_cons (ps_cut (ps_if (PW.pt (pw_or (pt_not (pt_val (pe_cal c_is_content hr (pa_cons (pv 1) pa_nil)))) (pw_or (pt_not (pt_val (pe_cal c_is_width hr (pa_cons (pv 2) pa_nil)))) (pw_or1 (pt_not (pt_val (pe_cal c_are_steps hr (pa_cons (pe_callB call_len' (by rfl) T.len (by decide +kernel) (pa_cons (pv 1) pa_nil)) (pa_cons (pv 2) (pa_cons (pv 3) pa_nil))))))))))
      (pss_one ps_never)
      pss_nil))
    (pss_cons (ps_set (i := 4) sc_Plan___init.nd rfl (Or.inr rfl) (pe_cal c_epochs_of hr (pa_cons (pv 3) pa_nil)))
    (pss_cons (ps_fld (pv 0) (pv 1) rfl)
    (pss_cons (ps_fld (pv 0) (pv 2) rfl)
    (pss_cons (ps_fld (pv 0) (pe_callTy call_list' (by rfl) T.list (by decide +kernel) (pa_cons (pv 3) pa_nil)) rfl)
    (pss_cons (ps_fld (pv 0) (pe_cal c_pieces_of hr (pa_cons (pv 2) (pa_cons (pv 3) pa_nil))) rfl)
    (pss_cons (ps_fld (pv 0) (pe_lc (own := [("piece", 5)]) (g := (gName 5)) (tt := tYes) rfl sc_Plan___init.nd (pi_list (pe_fld (pv 0) rfl)) (blkOk_by (own := [("piece", 5)]) (N := N_Plan___init) (sc := defScope s_Plan___init) (by decide +kernel)) (fun _ _ _ _ _ => pg_name (i := 5) sc_Plan___init.nd rfl (Or.inl rfl)) (fun _ _ _ _ _ => pts_nil) (fun _ _ _ _ _ => (pe_ix ix_seq' (pv 4) (pe_ix ix_seq' (pv 5) pe_int (fun _ _ => rfl)) (fun _ _ => rfl)))) rfl)
    (pss_one (ps_fld (pv 0) (pe_op op_add (pe_bm PySem.F.plainAttrs_list PySem.F.slot_list_count PySem.F.type_list_count (mt_countX (Nat.lt_of_le_of_lt (Nat.add_le_add_left (show 1 ≤ 64 by decide) _) hr.units)) (pv 3) (pa_cons pe_non pa_nil)) pe_int) rfl))))))))), ?_⟩
  have xl := paired_len hst
  have l1 := gd.sl
  have l2 := gd.c24
  have l3 := gd.pc
  -- the questions, all of them right
  refine ⟨fun σ' H' => σ' = [some (.ref x), some (.ref ca), some (.int pl.w), some (.ref sa), none, none] ∧ Same H H', ?_, ?_⟩
  · refine ⟨_, rfl, _, rfl, th_ints hca (by omega), fun H1 s1 => ⟨_, rfl, ?_⟩⟩
    rw [content_ok hca gd.c1 gd.c24 gd.cb]
    refine iteF ⟨_, rfl, _, "int", rfl, ⟨.int _, by decide, fun _ _ _ e => by cases e⟩, ?_⟩
    rw [width_ok gd.w1 gd.w24]
    refine ⟨_, rfl, iteF ?_⟩
    have so := steps_ok (s1 _ _ hsa) (steps_same s1 hst) (fun y hy => gd.st y hy)
    refine ⟨_, rfl, ca, _, rfl, .inr (s1 _ _ hca), _, rfl, _, rfl, _, _, .ref sa, rfl, th_steps (s1 _ _ hsa) (by omega) (steps_same s1 hst) (fun y hy => gd.st y hy) (by omega), fun z => ?_, fun _ H2 s2 => ?_⟩
    · rw [ivs_len, so] at z
      cases z
    · exact ⟨pl.w, sa, xs, pl.sts, rfl, s2 _ _ (s1 _ _ hsa), steps_same (s1.trans s2) hst, by have := gd.w1; omega, by omega, fun y hy => ok24 (gd.st y hy) gd.c24, gd.pc, fun H3 s3 => ⟨_, rfl, iteF ⟨rfl, s1.trans (s2.trans s3)⟩⟩⟩
  rintro _ H2 ⟨rfl, S2⟩
  -- the epochs of the steps
  refine ⟨_, rfl, sa, xs, pl.sts, rfl, S2 _ _ hsa, steps_same S2 hst, by omega, fun el H3 s3 hel h3 => ?_⟩
  have k3 : Ko x H H3 := fun a o _ e => (S2.trans s3) _ _ e
  have x3 : H3 x = some (.ins C dx []) := (S2.trans s3) _ _ hx
  have nca : ca ≠ x := ne_of hca hx (by intro q; cases q)
  have nsa : sa ≠ x := ne_of hsa hx (by intro q; cases q)
  have nel : el ≠ x := ne_of h3 x3 (by intro q; cases q)
  -- base, width, steps
  refine ⟨_, rfl, _, rfl, x, C, dx, _, rfl, x3, TC.cl, TC.nB, by show 0 < 1000; decide, ?_⟩
  refine ⟨_, rfl, _, rfl, x, C, dx, _, rfl, upd_same, TC.cl, TC.nW, Nat.lt_of_le_of_lt (len_put (Nat.le_refl _)) (by decide), ?_⟩
  have k5 := (k3.upd (o := .ins C dx (putF "_base" (.ref ca) []))).upd (o := .ins C dx (putF "_width" (.int pl.w) (putF "_base" (.ref ca) [])))
  have e5 : (L2.upd (L2.upd H3 x (.ins C dx (putF "_base" (.ref ca) []))) x (.ins C dx (putF "_width" (.int pl.w) (putF "_base" (.ref ca) [])))) el = some (.lst (ivs (eps 0 pl.sts))) := by rw [upd_ne nel, upd_ne nel]; exact h3
  generalize hH5 : L2.upd (L2.upd H3 x (.ins C dx (putF "_base" (.ref ca) []))) x (.ins C dx (putF "_width" (.int pl.w) (putF "_base" (.ref ca) []))) = H5 at k5 e5
  have x5 : H5 x = some (.ins C dx (putF "_width" (.int pl.w) (putF "_base" (.ref ca) []))) := by rw [← hH5]; exact upd_same
  have f5 : ∀ a, H5 a = none → H a = none := fun a e => by
    cases z : H a with
    | none => rfl
    | some o =>
      by_cases n : a = x
      · rw [n, x5] at e
        cases e
      · rw [k5 a o n z] at e
        cases e
  refine ⟨_, rfl, sa, xs, rfl, .inl (k5 _ _ nsa hsa), fun sl H6 hsl s6 h6 => ?_⟩
  have x6 := s6 _ _ x5
  have nsl : sl ≠ x := ne_of h6 x6 (by intro q; cases q)
  refine ⟨_, rfl, x, C, dx, _, rfl, x6, TC.cl, TC.nS, Nat.lt_of_le_of_lt (len_put (len_put (Nat.le_refl _))) (by decide), ?_⟩
  have k7 := (k5.same s6).upd (o := .ins C dx (putF "_steps" (.ref sl) (putF "_width" (.int pl.w) (putF "_base" (.ref ca) []))))
  -- the pieces
  refine ⟨_, rfl, _, rfl, pl.w, sa, xs, pl.sts, rfl, k7 _ _ nsa hsa, steps_ko k7 hx hst, by have := gd.w1; omega, by omega, fun y hy => ok24 (gd.st y hy) gd.c24, fun ql H8 ys s8 hql h8 pv => ?_⟩
  have ylen := paired_len pv
  have x8 := s8 _ _ (upd_same (H := H6) (a := x) (o := .ins C dx (putF "_steps" (.ref sl) (putF "_width" (.int pl.w) (putF "_base" (.ref ca) [])))))
  have k8 := k7.same s8
  have nql : ql ≠ x := ne_of h8 x8 (by intro q; cases q)
  refine ⟨_, rfl, x, C, dx, _, rfl, x8, TC.cl, TC.nP, Nat.lt_of_le_of_lt (len_put (len_put (len_put (Nat.le_refl _)))) (by decide), ?_⟩
  have sl8 : H8 sl = some (.lst xs) := s8 _ _ (by rw [upd_ne nsl]; exact h6)
  have el8 : H8 el = some (.lst (ivs (eps 0 pl.sts))) := s8 _ _ (by rw [upd_ne nel]; exact s6 _ _ e5)
  -- their epochs
  have k9 := k8.upd (o := .ins C dx (putF "_pieces" (.ref ql) (putF "_steps" (.ref sl) (putF "_width" (.int pl.w) (putF "_base" (.ref ca) [])))))
  have q9 : (L2.upd H8 x (.ins C dx (putF "_pieces" (.ref ql) (putF "_steps" (.ref sl) (putF "_width" (.int pl.w) (putF "_base" (.ref ca) [])))))) ql = some (.lst ys) := by rw [upd_ne nql]; exact h8
  have el9 : (L2.upd H8 x (.ins C dx (putF "_pieces" (.ref ql) (putF "_steps" (.ref sl) (putF "_width" (.int pl.w) (putF "_base" (.ref ca) [])))))) el = some (.lst (ivs (eps 0 pl.sts))) := by rw [upd_ne nel]; exact el8
  have sl9 : (L2.upd H8 x (.ins C dx (putF "_pieces" (.ref ql) (putF "_steps" (.ref sl) (putF "_width" (.int pl.w) (putF "_base" (.ref ca) [])))))) sl = some (.lst xs) := by rw [upd_ne nsl]; exact sl8
  have p9 : Paired (PieceA (L2.upd H8 x (.ins C dx (putF "_pieces" (.ref ql) (putF "_steps" (.ref sl) (putF "_width" (.int pl.w) (putF "_base" (.ref ca) []))))))) ys (allP pl.w 0 pl.sts) := L2.Paired.mapP pv fun v p z => by
    obtain ⟨t, b, e, ht, hb⟩ := z
    exact ⟨t, b, e, by rw [upd_ne (ne_of ht x8 (by intro q; cases q))]; exact ht, by rw [upd_ne (ne_of hb x8 (by intro q; cases q))]; exact hb⟩
  have x9 : (L2.upd H8 x (.ins C dx (putF "_pieces" (.ref ql) (putF "_steps" (.ref sl) (putF "_width" (.int pl.w) (putF "_base" (.ref ca) [])))))) x = _ := upd_same
  generalize L2.upd H8 x (.ins C dx (putF "_pieces" (.ref ql) (putF "_steps" (.ref sl) (putF "_width" (.int pl.w) (putF "_base" (.ref ca) []))))) = H9 at k9 q9 el9 sl9 p9 x9
  refine ⟨_, rfl, x, C, dx, _, _, rfl, x9, TC.cl, TC.nP, put_at, ql, rfl, ⟨ys, SqL.of q9⟩, fun D hD => lc_list (K := K) (a := ql) (xs := ys) (fun i H' => Same H9 H' ∧ H' D = some (.lst (ivs ((pieceE pl.sts (allP pl.w 0 pl.sts)).take i)))) ?_ ?_ ?_ ?_⟩
  · exact ⟨same_new hD, upd_same⟩
  · rintro i H' _ ⟨s10, _⟩
    exact SqL.of (s10 _ _ q9)
  · rintro i y H' hy ⟨s10, h10⟩
    have il : i < ys.length := (List.getElem?_eq_some_iff.mp hy).1
    obtain ⟨p, hp1, t, b, rfl, ht, hb⟩ := paired_get p9 hy
    obtain ⟨j, hj1, _, hj2⟩ := allP_in (List.mem_of_getElem? hp1)
    have jl : j < (eps 0 pl.sts).length := by rw [eps_len]; omega
    have ge : (pieceE pl.sts (allP pl.w 0 pl.sts))[i]? = some (eps 0 pl.sts)[j] := by
      unfold pieceE
      rw [List.getElem?_map, hp1]
      show some (((eps 0 pl.sts)[p.1.toNat]?).getD 0) = _
      rw [hj1, Int.toNat_natCast, List.getElem?_eq_getElem jl]
      rfl
    have ht' := s10 _ _ ht
    rw [hj1] at ht'
    refine ⟨rfl, _, rfl, _, rfl, t, _, _, _, rfl, rfl, .inr ht', rfl, el, _, _, _, rfl, rfl, .inl (s10 _ _ el9), atI_nat (ivs_get jl), _, h10, szl (by rw [ivs_len, List.length_take]; omega), same_mut s10 hD, ?_⟩
    rw [upd_same, List.take_add_one, ge]
    unfold ivs
    rw [List.map_append]
    rfl
  · rintro H10 ⟨s10, h10⟩
    have pl' : (pieceE pl.sts (allP pl.w 0 pl.sts)).length = ys.length := by
      unfold pieceE
      rw [List.length_map, ylen]
    rw [← pl', List.take_length] at h10
    have x10 := s10 _ _ x9
    have nD : D ≠ x := ne_of h10 x10 (by intro q; cases q)
    refine ⟨_, rfl, x, C, dx, _, rfl, x10, TC.cl, TC.nE, Nat.lt_of_le_of_lt (len_put (len_put (len_put (len_put (Nat.le_refl _))))) (by decide), ?_⟩
    have k11 := (k9.same s10).upd (o := .ins C dx (putF "_piece_epochs" (.ref D) (putF "_pieces" (.ref ql) (putF "_steps" (.ref sl) (putF "_width" (.int pl.w) (putF "_base" (.ref ca) []))))))
    refine ⟨_, rfl, .inl ⟨rfl, _, SqL.of (k11 _ _ nsa hsa)⟩, sa, xs, _, rfl, rfl, SqL.of (k11 _ _ nsa hsa), dp_steps (steps_ko k11 hx hst), (lay_steps _).1, ⟨_, _, rfl, rfl, ?_⟩⟩
    refine ⟨_, rfl, x, C, dx, _, rfl, upd_same, TC.cl, TC.nN, Nat.lt_of_le_of_lt (len_put (len_put (len_put (len_put (len_put (Nat.le_refl _)))))) (by decide), ?_⟩
    rw [bars_count]
    have f8 : ∀ c, (L2.upd H6 x (.ins C dx (putF "_steps" (.ref sl) (putF "_width" (.int pl.w) (putF "_base" (.ref ca) []))))) c = none → H c = none := fun c e => by
      cases z : H c with
      | none => rfl
      | some o =>
        by_cases n : c = x
        · rw [n, upd_same] at e
          cases e
        · rw [k7 c o n z] at e
          cases e
    have f9 : ∀ c, H9 c = none → H c = none := fun c e => by
      cases z : H c with
      | none => rfl
      | some o =>
        by_cases n : c = x
        · rw [n, x9] at e
          cases e
        · rw [k9 c o n z] at e
          cases e
    refine k _ sl ql D _ ys k11.upd (f5 _ hsl) (f8 _ hql) (f9 _ hD) upd_same ?_ ?_ ?_ ?_ ?_ put_at (by rfl) ?_ ?_ ?_ ?_
    · exact put_no (put_no (put_no (put_no (put_no put_at))))
    · exact put_no (put_no (put_no (put_no put_at)))
    · exact put_no (put_no (put_no put_at))
    · exact put_no (put_no put_at)
    · exact put_no put_at
    · rw [upd_ne nsl, upd_ne nsl]
      exact s10 _ _ sl9
    · rw [upd_ne nql, upd_ne nql]
      exact s10 _ _ q9
    · refine L2.Paired.mapP p9 fun v p z => ?_
      obtain ⟨t, b, e, ht, hb⟩ := z
      have ht' := s10 _ _ ht
      have hb' := s10 _ _ hb
      exact ⟨t, b, e, by rw [upd_ne (ne_of ht' x10 (by intro q; cases q)), upd_ne (ne_of ht' x10 (by intro q; cases q))]; exact ht', by rw [upd_ne (ne_of hb' x10 (by intro q; cases q)), upd_ne (ne_of hb' x10 (by intro q; cases q))]; exact hb'⟩
    · rw [upd_ne nD, upd_ne nD]
      exact h10
end
end Af

set_option Elab.async false
set_option linter.all false
set_option maxRecDepth 100000
namespace Af
open PySem L2
abbrev s_Plan_base : Stmt := inClass (top 29) 1
abbrev N_Plan_base : List Str := ["self"]
theorem sc_Plan_base : FnScope N_Plan_base ["self"] (defScope s_Plan_base) := ⟨rfl, rfl, rfl, by decide +kernel, rfl, by decide +kernel, by decide +kernel⟩

abbrev s_Plan_width : Stmt := inClass (top 29) 2
abbrev N_Plan_width : List Str := ["self"]
theorem sc_Plan_width : FnScope N_Plan_width ["self"] (defScope s_Plan_width) := ⟨rfl, rfl, rfl, by decide +kernel, rfl, by decide +kernel, by decide +kernel⟩

abbrev s_Plan_steps : Stmt := inClass (top 29) 3
abbrev N_Plan_steps : List Str := ["self"]
theorem sc_Plan_steps : FnScope N_Plan_steps ["self"] (defScope s_Plan_steps) := ⟨rfl, rfl, rfl, by decide +kernel, rfl, by decide +kernel, by decide +kernel⟩

abbrev s_Plan_pieces : Stmt := inClass (top 29) 4
abbrev N_Plan_pieces : List Str := ["self"]
theorem sc_Plan_pieces : FnScope N_Plan_pieces ["self"] (defScope s_Plan_pieces) := ⟨rfl, rfl, rfl, by decide +kernel, rfl, by decide +kernel, by decide +kernel⟩

abbrev s_Plan_epochs : Stmt := inClass (top 29) 5
abbrev N_Plan_epochs : List Str := ["self"]
theorem sc_Plan_epochs : FnScope N_Plan_epochs ["self"] (defScope s_Plan_epochs) := ⟨rfl, rfl, rfl, by decide +kernel, rfl, by decide +kernel, by decide +kernel⟩

/-- a plan that was made: its six fields and its lists -/
structure PlanX (C x ca sl ql el : Addr) (H : Hp) (pl : Pl) (xs ys : List V) : Prop where
  ins : ∃ dx fs, H x = some (.ins C dx fs) ∧ fs.lookup ("_base" : Str) = some (.ref ca) ∧ fs.lookup ("_width" : Str) = some (.int pl.w) ∧ fs.lookup ("_steps" : Str) = some (.ref sl) ∧
    fs.lookup ("_pieces" : Str) = some (.ref ql) ∧ fs.lookup ("_piece_epochs" : Str) = some (.ref el) ∧ fs.lookup ("_epochs" : Str) = some (.int ((bars pl.sts : Nat) + 1)) ∧ fs.lookup ("epoch_of" : Str) = none
  steps : H sl = some (.lst xs)
  pieces : H ql = some (.lst ys)
  eps : H el = some (.lst (ivs (pieceE pl.sts (allP pl.w 0 pl.sts))))
def sp_p_base (C : Addr) : Sp := fun vs H Q _ => ∃ (x ca sl ql el : Addr) (pl : Pl) (xs ys : List V), vs = [.ref x] ∧ PlanX C x ca sl ql el H pl xs ys ∧ Q (.ref ca) H
def sp_p_width (C : Addr) : Sp := fun vs H Q _ => ∃ (x ca sl ql el : Addr) (pl : Pl) (xs ys : List V), vs = [.ref x] ∧ PlanX C x ca sl ql el H pl xs ys ∧ Q (.int pl.w) H
def sp_p_steps (C : Addr) : Sp := fun vs H Q _ => ∃ (x ca sl ql el : Addr) (pl : Pl) (xs ys : List V), vs = [.ref x] ∧ PlanX C x ca sl ql el H pl xs ys ∧ ∀ l H', Same H H' → H l = none → H' l = some (.lst xs) → Q (.ref l) H'
def sp_p_pieces (C : Addr) : Sp := fun vs H Q _ => ∃ (x ca sl ql el : Addr) (pl : Pl) (xs ys : List V), vs = [.ref x] ∧ PlanX C x ca sl ql el H pl xs ys ∧ ∀ l H', Same H H' → H l = none → H' l = some (.lst ys) → Q (.ref l) H'
def sp_p_epochs (C : Addr) : Sp := fun vs H Q _ => ∃ (x ca sl ql el : Addr) (pl : Pl) (xs ys : List V), vs = [.ref x] ∧ PlanX C x ca sl ql el H pl xs ys ∧ Q (.int ((bars pl.sts : Nat) + 1)) H
section
variable {P : Program} {w : World} {K : PySem.W.Frag} {mg : Str → Option Value} {base : Heap}
theorem ok_p_base {f C : Addr} {fd : FuncData} (F : Fun K "base" "Plan.base" s_Plan_base f fd) (TC : PlanC K mg C) : FnOk P w K mg base CX0 1 f fd ["self"] (sp_p_base C) := by
  refine F.ok sc_Plan_base (fun vs H Q E h => ?_) (fun cdv A outer s H vs Q E hr h => ?_)
  · obtain ⟨_, _, _, _, _, _, _, _, rfl, _⟩ := h
    rfl
  obtain ⟨x, ca, sl, ql, el, pl, xs, ys, rfl, ⟨⟨dx, fs, hx, hB, hW, hS, hP, hE, hN, hM⟩, h1, h2, h3⟩, k⟩ := h
  refine ⟨_, (pss_one (ps_ret (pe_fld (pv 0) rfl))), ?_⟩
  exact ⟨_, rfl, x, C, dx, fs, _, rfl, hx, TC.cl, TC.nB, hB, k⟩
theorem ok_p_width {f C : Addr} {fd : FuncData} (F : Fun K "width" "Plan.width" s_Plan_width f fd) (TC : PlanC K mg C) : FnOk P w K mg base CX0 1 f fd ["self"] (sp_p_width C) := by
  refine F.ok sc_Plan_width (fun vs H Q E h => ?_) (fun cdv A outer s H vs Q E hr h => ?_)
  · obtain ⟨_, _, _, _, _, _, _, _, rfl, _⟩ := h
    rfl
  obtain ⟨x, ca, sl, ql, el, pl, xs, ys, rfl, ⟨⟨dx, fs, hx, hB, hW, hS, hP, hE, hN, hM⟩, h1, h2, h3⟩, k⟩ := h
  refine ⟨_, (pss_one (ps_ret (pe_fld (pv 0) rfl))), ?_⟩
  exact ⟨_, rfl, x, C, dx, fs, _, rfl, hx, TC.cl, TC.nW, hW, k⟩
theorem ok_p_steps {f C : Addr} {fd : FuncData} (F : Fun K "steps" "Plan.steps" s_Plan_steps f fd) (T : Txt mg) (TC : PlanC K mg C) : FnOk P w K mg base CX0 1 f fd ["self"] (sp_p_steps C) := by
  refine F.ok sc_Plan_steps (fun vs H Q E h => ?_) (fun cdv A outer s H vs Q E hr h => ?_)
  · obtain ⟨_, _, _, _, _, _, _, _, rfl, _⟩ := h
    rfl
  obtain ⟨x, ca, sl, ql, el, pl, xs, ys, rfl, ⟨⟨dx, fs, hx, hB, hW, hS, hP, hE, hN, hM⟩, h1, h2, h3⟩, k⟩ := h
  refine ⟨_, (pss_one (ps_ret (pe_callTy call_list' (by rfl) T.list (by decide +kernel) (pa_cons (pe_fld (pv 0) rfl) pa_nil)))), ?_⟩
  refine ⟨_, rfl, x, C, dx, fs, _, rfl, hx, TC.cl, TC.nS, hS, ?_⟩
  exact ⟨sl, _, rfl, .inl h1, fun c H2 hc s3 h3 => k c H2 s3 hc h3⟩
theorem ok_p_pieces {f C : Addr} {fd : FuncData} (F : Fun K "pieces" "Plan.pieces" s_Plan_pieces f fd) (T : Txt mg) (TC : PlanC K mg C) : FnOk P w K mg base CX0 1 f fd ["self"] (sp_p_pieces C) := by
  refine F.ok sc_Plan_pieces (fun vs H Q E h => ?_) (fun cdv A outer s H vs Q E hr h => ?_)
  · obtain ⟨_, _, _, _, _, _, _, _, rfl, _⟩ := h
    rfl
  obtain ⟨x, ca, sl, ql, el, pl, xs, ys, rfl, ⟨⟨dx, fs, hx, hB, hW, hS, hP, hE, hN, hM⟩, h1, h2, h3⟩, k⟩ := h
  refine ⟨_, (pss_one (ps_ret (pe_callTy call_list' (by rfl) T.list (by decide +kernel) (pa_cons (pe_fld (pv 0) rfl) pa_nil)))), ?_⟩
  refine ⟨_, rfl, x, C, dx, fs, _, rfl, hx, TC.cl, TC.nP, hP, ?_⟩
  exact ⟨ql, _, rfl, .inl h2, fun c H2 hc s3 h3 => k c H2 s3 hc h3⟩
theorem ok_p_epochs {f C : Addr} {fd : FuncData} (F : Fun K "epochs" "Plan.epochs" s_Plan_epochs f fd) (TC : PlanC K mg C) : FnOk P w K mg base CX0 1 f fd ["self"] (sp_p_epochs C) := by
  refine F.ok sc_Plan_epochs (fun vs H Q E h => ?_) (fun cdv A outer s H vs Q E hr h => ?_)
  · obtain ⟨_, _, _, _, _, _, _, _, rfl, _⟩ := h
    rfl
  obtain ⟨x, ca, sl, ql, el, pl, xs, ys, rfl, ⟨⟨dx, fs, hx, hB, hW, hS, hP, hE, hN, hM⟩, h1, h2, h3⟩, k⟩ := h
  refine ⟨_, (pss_one (ps_ret (pe_fld (pv 0) rfl))), ?_⟩
  exact ⟨_, rfl, x, C, dx, fs, _, rfl, hx, TC.cl, TC.nN, hN, k⟩
end
end Af

set_option Elab.async false
set_option linter.all false
set_option maxRecDepth 100000
namespace Af
open PySem PySem.Spec PySem.Calls PyProof.Rows PySem.SeqAt L2
open AutoSeq1 (wpAny_loadPart')
/-! a tuple times 0, 1, or more -/
theorem mul_one (l : Addr) (items : Array Value) (n : Nat) (dd : Option Addr) (sl : Array (Option Value)) (u : Tok) :
    Meets (Builtin.«tuple.__mul__» ⟨[.ref l, .int 1 u], []⟩) (fun _ R s => s.heap.get? l = some { cls := .type "tuple", dict := dd, data := .seq items n, slots := sl } ∧ R (.ok (.ret (Value.ref l))) s) :=
  .of_wp fun prog w A R s h => by
    obtain ⟨hp, g, d, tk, os⟩ := s
    obtain ⟨hl, h⟩ := h
    have f1 := AutoSeq1.idx_int
    wp_walk using wpAny_loadPart' hl
    exact ⟨_, rfl, h⟩
theorem mul_zero (l : Addr) (items : Array Value) (n : Nat) (dd : Option Addr) (sl : Array (Option Value)) (u : Tok) (hi : items.isEmpty = false) :
    Meets (Builtin.«tuple.__mul__» ⟨[.ref l, .int 0 u], []⟩) (fun _ R s => s.heap.get? l = some { cls := .type "tuple", dict := dd, data := .seq items n, slots := sl } ∧
      R (.ok (.ret (Value.ref s.heap.objs.size))) { s with heap := s.heap.push { cls := Value.type "tuple", data := Data.seq #[] }, toks := s.toks }) :=
  .of_wp fun prog w A R s h => by
    obtain ⟨hp, g, d, tk, os⟩ := s
    obtain ⟨hl, h⟩ := h
    have f1 := AutoSeq1.idx_int
    wp_walk using wpAny_loadPart' hl
    exact ⟨_, rfl, h⟩
def rRepT' : R2 := fun x y H Q => ∃ l k xs, x = .ref l ∧ y = .int k ∧ H l = some (.tup xs) ∧ xs ≠ [] ∧ 0 ≤ k ∧ k ≤ 1000 ∧ xs.length ≤ 1000 ∧ NewT (List.replicate k.toNat xs).flatten H Q
theorem op_repT' {X : Cx} : OpR X (binaryOp .Mult) rRepT' := by
  intro pins s σ H x y v u Q I rx ry h
  obtain ⟨l, k, xs, rfl, rfl, hT, ne, h1, h2, hz, q⟩ := h
  by_cases two : 2 ≤ k
  · exact op_repT pins s σ H _ _ v u Q I rx ry ⟨l, k, xs, rfl, rfl, SqT.of hT, ne, two, h2, hz, fun p hp => q p _ (same_new hp) upd_same⟩
  cases (show v = Value.ref l from rx)
  obtain ⟨t, rfl⟩ := (show ∃ t, u = Value.int k t from ry)
  obtain ⟨its, r, ⟨⟨cls, dd, data, sl⟩, ho, hc, n, hd⟩, hs⟩ := I.tuple (SqT.of hT)
  simp only at hc hd
  subst hc hd
  have many : its.length = xs.length := r.length.symm
  have some_ : its.toArray.isEmpty = false := by
    cases its with
    | nil => exact absurd (List.eq_nil_of_length_eq_zero many.symm) ne
    | cons a b => rfl
  have go : ∀ {R : Value → Shared → Prop} {E : Value → Shared → Prop}, wpAny (model X.prog X.w) X.A.in1 (call (.builtin "tuple.__mul__") [.ref l, .int k t]) R E s → True := fun _ => trivial
  rcases (show k = 0 ∨ k = 1 by omega) with rfl | rfl
  · refine wpAny_binaryOp_repeat_ref (T := "tuple") (U := "int") (by decide) ⟨_, ho, rfl⟩ (fun s' => typeIs_int s' 0 t) noFill_tuple_mul F.fills_int_mul F.slot_int_rmul repeat_tuple F.slot_int_index.lookup
      (call_meets F.slot_int_rmul (typeIs_int s 0 t) F.entry_int_rmul (F.args_int_rmul_2 _ _) (int_rmul_tuple 0 t l its.toArray n dd sl) ⟨ho, rfl, ⟨_, ho, rfl⟩, call_meets F.slot_tuple_mul ⟨_, ho, rfl⟩ F.entry_tuple_mul (F.args_tuple_mul_2 _ _) (mul_zero l its.toArray n dd sl t some_) ⟨ho, ?_⟩⟩)
    exact ⟨.ref s.heap.objs.size, _, I.laid (t' := s.toks) (o := .tup []) (fun b ob y => Heap.get?_push_of_some _ y) (Nat.le_refl _) ⟨Nat.zero_le _, [], .nil, PyProof.Rows.IsTup.new _ _⟩, rfl, q _ _ (same_new (I.hok.fresh (Nat.le_refl _))) upd_same⟩
  · refine wpAny_binaryOp_repeat_ref (T := "tuple") (U := "int") (by decide) ⟨_, ho, rfl⟩ (fun s' => typeIs_int s' 1 t) noFill_tuple_mul F.fills_int_mul F.slot_int_rmul repeat_tuple F.slot_int_index.lookup
      (call_meets F.slot_int_rmul (typeIs_int s 1 t) F.entry_int_rmul (F.args_int_rmul_2 _ _) (int_rmul_tuple 1 t l its.toArray n dd sl) ⟨ho, rfl, ⟨_, ho, rfl⟩, call_meets F.slot_tuple_mul ⟨_, ho, rfl⟩ F.entry_tuple_mul (F.args_tuple_mul_2 _ _) (mul_one l its.toArray n dd sl t) ⟨ho, ?_⟩⟩)
    refine ⟨.ref l, H, I, rfl, q l H (Same.refl H) ?_⟩
    rw [hT]
    show some (HO.tup xs) = some (HO.tup (List.replicate 1 xs).flatten)
    simp
end Af

set_option Elab.async false
set_option linter.all false
set_option maxRecDepth 100000
namespace Af
open PySem PySem.Spec PyProof.Rows L2
/-! data whose text is not long -/
/-- its text has at most b signs, it can be shown, it nests at most n deep -/
structure Bd (b n : Nat) (d : PyData) : Prop where
  tx : d.shown.length ≤ b
  sh : d.showable = true
  dp : d.depth ≤ n
theorem Bd.mono {b n b' n' : Nat} {d : PyData} (h : Bd b n d) (h1 : b ≤ b') (h2 : n ≤ n') : Bd b' n' d := ⟨Nat.le_trans h.tx h1, h.sh, Nat.le_trans h.dp h2⟩
theorem Bd.flat {d : PyData} (h : flatD d = true) : Bd 45 1 d := by
  obtain ⟨h1, h2, h3⟩ := flat_len h
  exact ⟨h1, h2, h3⟩
theorem Bd.lst {b n k : Nat} {ds : List PyData} (h : ∀ d ∈ ds, Bd b n d) (hl : ds.length ≤ k) : Bd (k * (b + 2) + 3) (n + 1) (.list ds) := by
  obtain ⟨t, _⟩ := texts_le fun d hd => (h d hd).tx
  have e : ds.length * (b + 2) ≤ k * (b + 2) := Nat.mul_le_mul_right _ hl
  have e2 : ds.length * (b + 2) = b * ds.length + 2 * ds.length := by rw [Nat.mul_add, Nat.mul_comm ds.length b, Nat.mul_comm ds.length 2]
  refine ⟨?_, ?_, ?_⟩
  · simp only [PyData.shown]
    omega
  · simp only [PyData.showable]
    exact showAll_of fun d hd => (h d hd).sh
  · simp only [PyData.depth]
    have := depthAll_of fun d hd => (h d hd).dp
    omega
theorem Bd.tup {b n k : Nat} {ds : List PyData} (h : ∀ d ∈ ds, Bd b n d) (hl : ds.length ≤ k) : Bd (k * (b + 2) + 3) (n + 1) (.tuple ds) := by
  obtain ⟨_, t⟩ := texts_le fun d hd => (h d hd).tx
  have e : ds.length * (b + 2) ≤ k * (b + 2) := Nat.mul_le_mul_right _ hl
  have e2 : ds.length * (b + 2) = b * ds.length + 2 * ds.length := by rw [Nat.mul_add, Nat.mul_comm ds.length b, Nat.mul_comm ds.length 2]
  refine ⟨?_, ?_, ?_⟩
  · simp only [PyData.shown]
    omega
  · simp only [PyData.showable]
    exact showAll_of fun d hd => (h d hd).sh
  · simp only [PyData.depth]
    have := depthAll_of fun d hd => (h d hd).dp
    omega
theorem mem_shown {ds : List PyData} {d : PyData} (h : d ∈ ds) : d.shown ∈ PyData.shownAll ds := by
  induction ds with
  | nil => simp at h
  | cons a r ih =>
    simp only [PyData.shownAll]
    rcases List.mem_cons.mp h with rfl | h
    · exact List.mem_cons_self
    · exact List.mem_cons_of_mem _ (ih h)
theorem piled_ge : ∀ ts : List Str, 2 * ts.length ≤ piled ts
  | [] => Nat.zero_le _
  | t :: ts => by
    have := piled_ge ts
    simp only [piled, List.map_cons, List.sum_cons, List.length_cons] at *
    omega
theorem th_text {K : PySem.W.Frag} {H : Hp} : ∀ {n : Nat} {x : V} {d : PyData}, Dq K H x d → d.shown.length ≤ 200000 → Th K H n x
  | 0, _, _, h, _ => dq_ty h
  | n + 1, x, d, h, sz => by
    refine ⟨dq_ty h, fun a xs e z => ?_⟩
    subst e
    have key : ∀ ds, DqAll K H xs ds → (∀ y ∈ ds, y.shown.length ≤ 200000) → 2 * ds.length ≤ 200000 → xs.length ≤ 100000 ∧ ∀ y ∈ xs, Th K H n y := fun ds t q l => by
      refine ⟨by rw [t.len]; omega, fun y hy => ?_⟩
      obtain ⟨d', m1, m2⟩ := t.mem hy
      exact th_text m2 (q d' m1)
    cases h with
    | @lst _ ys ds e t =>
      have p := piled_le_listText (PyData.shownAll ds)
      have g := piled_ge (PyData.shownAll ds)
      rw [shownAll_len] at g
      simp only [PyData.shown] at sz
      rcases z with z | z
      · rw [e] at z; cases z
      · rw [e] at z; cases z; exact key ds t (fun y hy => Nat.le_trans (listText_mem_le (mem_shown hy)) sz) (by omega)
    | @tup _ ys ds e t =>
      have p := piled_le_tupleText (PyData.shownAll ds)
      have g := piled_ge (PyData.shownAll ds)
      rw [shownAll_len] at g
      simp only [PyData.shown] at sz
      rcases z with z | z
      · rw [e] at z; cases z; exact key ds t (fun y hy => Nat.le_trans (tupleText_mem_le (mem_shown hy)) sz) (by omega)
      · rw [e] at z; cases z
    | dic e => rcases z with z | z <;> (rw [e] at z; cases z)
def few : PyData → Prop
  | .list l => l.length ≤ 100
  | _ => True
end Af

set_option Elab.async false
set_option linter.all false
set_option maxRecDepth 100000
namespace Af
open PySem PySem.Spec PyProof.Rows L2
/-! a heap without the lists that are changed -/
def hd (p : Addr) (H : Hp) : Hp := fun a => if a = p then none else H a
theorem hd_ne {p a : Addr} {H : Hp} (h : a ≠ p) : hd p H a = H a := if_neg h
theorem hd_in {p : Addr} {H : Hp} : Same (hd p H) H := fun a o e => by
  by_cases h : a = p
  · rw [h] at e
    rw [show hd p H p = none from if_pos rfl] at e
    cases e
  · rw [hd_ne h] at e
    exact e
theorem hd_same {p : Addr} {H H' : Hp} (s : Same H H') : Same (hd p H) (hd p H') := fun a o e => by
  by_cases h : a = p
  · rw [h] at e
    rw [show hd p H p = none from if_pos rfl] at e
    cases e
  · rw [hd_ne h] at e ⊢
    exact s a o e
theorem hd_kp {p : Addr} {H H' : Hp} (k : Kp p H H') : Same (hd p H) (hd p H') := fun a o e => by
  by_cases h : a = p
  · rw [h] at e
    rw [show hd p H p = none from if_pos rfl] at e
    cases e
  · rw [hd_ne h] at e ⊢
    exact k a o (.inl h) e
theorem hd_upd {p : Addr} {H : Hp} {o : HO} : hd p (upd H p o) = hd p H := funext fun a => by
  by_cases h : a = p
  · rw [h]
    exact (if_pos rfl).trans (if_pos rfl).symm
  · rw [hd_ne h, hd_ne h, upd_ne h]
theorem hd_comm {p l : Addr} {H : Hp} : hd l (hd p H) = hd p (hd l H) := funext fun a => by
  by_cases h : a = p
  · by_cases g : a = l
    · rw [show hd l (hd p H) a = none from if_pos g, show hd p (hd l H) a = none from if_pos h]
    · rw [hd_ne g, show hd p H a = none from if_pos h, show hd p (hd l H) a = none from if_pos h]
  · by_cases g : a = l
    · rw [show hd l (hd p H) a = none from if_pos g, hd_ne h, show hd l H a = none from if_pos g]
    · rw [hd_ne g, hd_ne h, hd_ne h, hd_ne g]
theorem kp_hd {p : Addr} {H : Hp} {ys : List V} (e : H p = some (.lst ys)) : Kp p H (hd p H) := fun a o n k => by
  by_cases h : a = p
  · rcases n with n | n
    · exact absurd h n
    · rw [h, e] at k
      exact absurd (Option.some.inj k).symm (n ys)
  · rw [hd_ne h]
    exact k
/-- what is new is hidden: all else stands -/
theorem same_hd {p : Addr} {H H' : Hp} (n : H p = none) (s : Same H H') : Same H (hd p H') := fun a o e => by
  rw [hd_ne (fun h => by rw [h, n] at e; cases e)]
  exact s a o e
/-- the heap G with both hidden -/
abbrev hd2 (p l : Addr) (H : Hp) : Hp := hd l (hd p H)
theorem hd2_at {p l a : Addr} {H : Hp} {o : HO} (e : H a = some o) (h1 : a ≠ p) (h2 : a ≠ l) : hd2 p l H a = some o := by
  show hd l (hd p H) a = some o
  rw [hd_ne h2, hd_ne h1]
  exact e
theorem hd2_same {p l : Addr} {H H' : Hp} (s : Same H H') : Same (hd2 p l H) (hd2 p l H') := hd_same (hd_same s)
theorem hd2_kp {p l : Addr} {H H' : Hp} (k : Kp p H H') : Same (hd2 p l H) (hd2 p l H') := hd_same (hd_kp k)
theorem hd2_upd {p l : Addr} {H : Hp} {o : HO} : hd2 p l (upd H l o) = hd2 p l H := by
  show hd l (hd p (upd H l o)) = hd l (hd p H)
  rw [hd_comm, hd_upd, hd_comm]
theorem hd2_in {p l : Addr} {H : Hp} : Same (hd2 p l H) H := fun a o e => hd_in a o (hd_in a o e)
section
variable {K : PySem.W.Frag}
theorem dq_stepV {H : Hp} {x : V} {st : Stp} (h : StepV H x st) : Dq K H x (stepD st) := by
  cases st with
  | none =>
    have e : x = V.non := h
    subst e
    exact .non
  | some fw =>
    obtain ⟨f, ws⟩ := fw
    obtain ⟨a, b, rfl, h1, h2⟩ := h
    refine .tup h1 (.cons (.int f) (.cons (.tup h2 ?_) .nil))
    clear h2
    induction ws with
    | nil => exact .nil
    | cons n ns ih => exact .cons (.int n) ih
theorem dq_ints {H : Hp} : ∀ ns : List Int, DqAll K H (ivs ns) (dvs ns)
  | [] => .nil
  | n :: ns => .cons (.int n) (dq_ints ns)
theorem dq_stepsV {H : Hp} : ∀ {xs : List V} {sts : List Stp}, Paired (StepV H) xs sts → DqAll K H xs (stepsD sts)
  | _, _, .nil => .nil
  | _, _, .cons h t => .cons (dq_stepV h) (dq_stepsV t)
theorem DqAll.app {H : Hp} : ∀ {xs ys : List V} {ds es : List PyData}, DqAll K H xs ds → DqAll K H ys es → DqAll K H (xs ++ ys) (ds ++ es)
  | _, _, _, _, .nil, h => h
  | _, _, _, _, .cons r t, h => .cons r (t.app h)
theorem DqAll.take {H : Hp} : ∀ {xs : List V} {ds : List PyData} (n : Nat), DqAll K H xs ds → DqAll K H (xs.take n) (ds.take n)
  | _, _, 0, _ => by
    rw [List.take_zero, List.take_zero]
    exact .nil
  | _, _, n + 1, .nil => .nil
  | _, _, n + 1, .cons r t => .cons r (t.take n)
theorem DqAll.drop {H : Hp} : ∀ {xs : List V} {ds : List PyData} (n : Nat), DqAll K H xs ds → DqAll K H (xs.drop n) (ds.drop n)
  | _, _, 0, h => h
  | _, _, n + 1, .nil => .nil
  | _, _, n + 1, .cons r t => t.drop n
theorem DqAll.rep {H : Hp} {x : V} {d : PyData} (h : Dq K H x d) : ∀ n : Nat, DqAll K H (List.replicate n [x]).flatten (List.replicate n d)
  | 0 => .nil
  | n + 1 => .cons h (DqAll.rep h n)
/-- a thing, told by data that is not long -/
def Tg (K : PySem.W.Frag) (G : Hp) (b n : Nat) (P : PyData → Prop) (x : V) : Prop := ∃ d, Dq K G x d ∧ Bd b n d ∧ P d
theorem Tg.same {G G' : Hp} {b n : Nat} {P : PyData → Prop} {x : V} (h : Tg K G b n P x) (s : Same G G') : Tg K G' b n P x := by
  obtain ⟨d, h1, h2, h3⟩ := h
  exact ⟨d, Dq.same s d x h1, h2, h3⟩
end
end Af

set_option Elab.async false
set_option linter.all false
set_option maxRecDepth 100000
namespace Af
open PySem PySem.Spec PyProof.Rows L2
theorem same_hd2 {p D : Addr} {H H' : Hp} (n : H D = none) (s : Same H H') : Same (hd p H) (hd2 p D H') := fun a o e => by
  have ap : a ≠ p := fun h => by
    rw [h, show hd p H p = none from if_pos rfl] at e
    cases e
  rw [hd_ne ap] at e
  exact hd2_at (s a o e) ap (fun h => by rw [h, n] at e; cases e)
theorem hd2_to {p l l' : Addr} {H H' : Hp} (n : H l' = none) (s : Same H H') : Same (hd2 p l H) (hd2 p l' H') := fun a o e => by
  have e1 := hd2_in a o e
  have ap : a ≠ p := fun h => by
    have e2 := hd_in a o e
    rw [h, show hd p H p = none from if_pos rfl] at e2
    cases e2
  exact hd2_at (s a o e1) ap (fun h => by rw [h, n] at e1; cases e1)
theorem len_stepsD : ∀ l : List Stp, (stepsD l).length = l.length
  | [] => rfl
  | a :: r => by
    show (stepsD r).length + 1 = r.length + 1
    rw [len_stepsD r]
theorem flat_small {z : Int} (h : 0 ≤ z ∧ z < 8) : flatD (.int z) = true := by
  have k : ∀ n : Fin 8, flatD (.int ((n.val : Nat) : Int)) = true := by decide +kernel
  obtain ⟨n, rfl⟩ := Int.eq_ofNat_of_zero_le h.1
  exact k ⟨n, by omega⟩
theorem flat_place {z : Int} (h : 0 ≤ z ∧ z ≤ 64) : flatD (.int z) = true := by
  have k : ∀ n : Fin 65, flatD (.int ((n.val : Nat) : Int)) = true := by decide +kernel
  obtain ⟨n, rfl⟩ := Int.eq_ofNat_of_zero_le h.1
  exact k ⟨n, by omega⟩
theorem dvs_mem {ns : List Int} {d : PyData} (h : d ∈ dvs ns) : ∃ z ∈ ns, d = .int z := by
  obtain ⟨z, hz, e⟩ := List.mem_map.mp h
  exact ⟨z, hz, e.symm⟩
theorem bd_cells {ns : List Int} (hl : ns.length ≤ 25) (h : ∀ z ∈ ns, 0 ≤ z ∧ z < 8) : Bd 1200 2 (.tuple (dvs ns)) := by
  refine (Bd.tup (b := 45) (n := 1) (k := 25) (fun d hd => ?_) (by rw [show (dvs ns).length = ns.length from List.length_map ..]; exact hl)).mono (by decide) (by decide)
  obtain ⟨z, hz, rfl⟩ := dvs_mem hd
  exact Bd.flat (flat_small (h z hz))
theorem bd_step {n : Nat} {st : Stp} (o : OkS n st) (hn : n ≤ 24) : Bd 2500 3 (stepD st) := by
  cases st with
  | none => exact (Bd.flat rfl).mono (by decide) (by decide)
  | some fw =>
    obtain ⟨f, ws⟩ := fw
    obtain ⟨o1, o2, o3, o4⟩ := o
    refine (Bd.tup (b := 1200) (n := 2) (k := 2) (ds := [.int f, .tuple (dvs ws)]) (fun d hd => ?_) (Nat.le_refl 2)).mono (by decide) (by decide)
    simp only [List.mem_cons, List.not_mem_nil, or_false] at hd
    rcases hd with rfl | rfl
    · exact (Bd.flat (flat_place ⟨o1, by omega⟩)).mono (by decide) (by decide)
    · exact bd_cells (by omega) o4
theorem stepsD_mem {n : Nat} : ∀ {l : List Stp} {d : PyData}, (∀ x ∈ l, OkS n x) → d ∈ stepsD l → ∃ st ∈ l, d = stepD st
  | [], d, _, h => by cases h
  | a :: r, d, o, h => by
    rcases List.mem_cons.mp h with rfl | h
    · exact ⟨a, List.mem_cons_self, rfl⟩
    · obtain ⟨st, h1, h2⟩ := stepsD_mem (fun x hx => o x (List.mem_cons_of_mem _ hx)) h
      exact ⟨st, List.mem_cons_of_mem _ h1, h2⟩
theorem bd_steps {n : Nat} {l : List Stp} (o : ∀ x ∈ l, OkS n x) (hn : n ≤ 24) : ∀ d ∈ stepsD l, Bd 4000 6 d := fun d hd => by
  obtain ⟨st, h1, rfl⟩ := stepsD_mem o hd
  exact (bd_step (o st h1) hn).mono (by decide) (by decide)
/-- a triple that is no plan's -/
def BadT (K : PySem.W.Frag) (good : PyData → PyData → PyData → Bool) (G : Hp) (u : V) : Prop := ∃ t b w s db dw ds, u = .ref t ∧ G t = some (.tup [b, w, s]) ∧ Dq K G b db ∧ Dq K G w dw ∧ Dq K G s ds ∧ Bd 190000 20 db ∧ Bd 190000 20 dw ∧ Bd 190000 20 ds ∧ few ds ∧ good db dw ds = false
theorem BadT.same {K : PySem.W.Frag} {good : PyData → PyData → PyData → Bool} {G G' : Hp} {u : V} (h : BadT K good G u) (s : Same G G') : BadT K good G' u := by
  obtain ⟨t, b, w, v, db, dw, ds, e, h1, h2, h3, h4, r⟩ := h
  exact ⟨t, b, w, v, db, dw, ds, e, s _ _ h1, Dq.same s _ _ h2, Dq.same s _ _ h3, Dq.same s _ _ h4, r⟩
/-- a triple that was just laid -/
theorem bad_mk {K : PySem.W.Frag} {good : PyData → PyData → PyData → Bool} {p l t : Addr} {H : Hp} {b w v : V} {db dw ds : PyData} {ys zs : List V} (hp : H p = some (.lst ys)) (hl : H l = some (.lst zs)) (ht : H t = some (.tup [b, w, v])) (h2 : Dq K (hd2 p l H) b db) (h3 : Dq K (hd2 p l H) w dw) (h4 : Dq K (hd2 p l H) v ds)
    (b1 : Bd 190000 20 db) (b2 : Bd 190000 20 dw) (b3 : Bd 190000 20 ds) (f : few ds) (bad : good db dw ds = false) : BadT K good (hd2 p l H) (.ref t) :=
  ⟨t, b, w, v, db, dw, ds, rfl, hd2_at ht (ne_of ht hp (by intro q; cases q)) (ne_of ht hl (by intro q; cases q)), h2, h3, h4, b1, b2, b3, f, bad⟩
end Af

set_option Elab.async false
set_option linter.all false
set_option maxRecDepth 100000
namespace Af
open PySem PySem.Spec PyProof.Rows L2
/-! repr of data of any kind -/
def rReprA (K : PySem.W.Frag) : List V → Hp → VK → Prop := fun xs H Q => ∃ (x : V) (d : PyData), xs = [x] ∧ Dq K H x d ∧ d.showable = true ∧ d.depth ≤ 60 ∧ d.shown.length ≤ sizeLine ∧ Q (.str d.shown) H
theorem call_reprA {X : Cx} (hg : X.A.guards = some []) (hu : X.A.units + 64 < cLine) : CallR X (.builtin "repr") (rReprA X.K) := by
  intro pins s σ H xs us Q I r h
  obtain ⟨x, d, rfl, hd, sh, dp, sz, q⟩ := h
  have hd0 := hd
  cases hd with
  | int i =>
    obtain ⟨u, rfl, ru⟩ := vals1 r
    obtain ⟨t, rfl⟩ := ru
    have lg : i.natAbs.log2 < 1920 := of_decide_eq_true (show decide (i.natAbs.log2 < 1920) = true from by simpa only [PyData.showable] using sh)
    refine PySem.P.repr_of_int lg ⟨.str _, H, I.tok _, ⟨_, rfl⟩, ?_⟩
    simpa only [PyData.shown] using q
  | non =>
    obtain ⟨u, rfl, ru⟩ := vals1 r
    cases (show u = Value.none from ru)
    refine PySem.P.repr_of_none ⟨.str _, H, I.tok _, ⟨_, rfl⟩, ?_⟩
    simpa only [PyData.shown] using q
  | bl b =>
    obtain ⟨u, rfl, ru⟩ := vals1 r
    cases (show u = Value.bool b from ru)
    refine PySem.P.repr_of_bool ⟨.str (PyData.bool b).shown, H, I.tok _, ⟨s.toks, ?_⟩, q⟩
    cases b <;> simp only [PyData.shown] <;> rfl
  | str z =>
    obtain ⟨u, rfl, ru⟩ := vals1 r
    obtain ⟨t, rfl⟩ := ru
    refine PySem.P.repr_of_str ⟨.str (PyData.str z).shown, H, I.tok _, ⟨s.toks, ?_⟩, q⟩ ?_
    · simp only [PyData.shown]
    simpa only [PyData.shown] using sz
  | @lst a xs ds e t =>
    have dp' : PyData.depthAll ds + 1 ≤ 60 := by simpa only [PyData.depth] using dp
    exact call_reprL hg hu pins s σ H _ us Q I r ⟨a, xs, ds, rfl, e, t, by simpa only [PyData.showable] using sh, by omega, sz, q⟩
  | @tup a xs ds e t =>
    have dp' : PyData.depthAll ds + 1 ≤ 60 := by simpa only [PyData.depth] using dp
    exact call_repr' hg hu pins s σ H _ us Q I r ⟨a, xs, ds, rfl, e, t, by simpa only [PyData.showable] using sh, by omega, sz, q⟩
  | @dic a ha =>
    obtain ⟨u, rfl, ru⟩ := vals1 r
    cases (show u = Value.ref a from ru)
    obtain ⟨_, hne, vs, rv, o, es, ep, h1, h2, h3, _, h4, _⟩ := dk_of I.hok ha
    cases rv
    have e : es.toList = [] := by
      cases q : es.toList with
      | nil => rfl
      | cons y l =>
        rw [q] at h4
        cases h4
    have rd : Reads s.heap (.ref a) (.dict []) ([a] ++ []) := Reads.dict (kvs := []) (as := []) (bs := []) h1 h2.1 h3 (by rw [e]; exact .nil) (by rw [e]; exact .nil)
    refine repr_of_reads' (h₀ := s.heap) rd sh (fun _ z => ?_) hg (by omega) (fun _ _ y => y) (fun h' u tk keep => ⟨.str (PyData.dict []).shown, H, I.kept keep, ⟨u, rfl⟩, q⟩) sz
    have z' : sysModules ∈ [a] := z
    rw [← List.mem_singleton.mp z'] at hne
    exact absurd hne (by simp)
end Af

set_option Elab.async false
set_option linter.all false
set_option maxRecDepth 100000
set_option maxHeartbeats 4000000
namespace Af
open PySem L2
/-- x is a plan of the program's with these parts -/
structure PlanI (p C : Addr) (H : Hp) (x : V) (pl : Pl) : Prop where
  ex : ∃ (a dx ca sl : Addr) (fs : List (Str × V)) (xs : List V), x = .ref a ∧ H a = some (.ins C dx fs) ∧ fs.lookup ("_base" : Str) = some (.ref ca) ∧ fs.lookup ("_width" : Str) = some (.int pl.w) ∧ fs.lookup ("_steps" : Str) = some (.ref sl) ∧
    H ca = some (.tup (ivs pl.cs)) ∧ sl ≠ p ∧ H sl = some (.lst xs) ∧ Paired (StepV H) xs pl.sts
theorem PlanI.kp {p C : Addr} {H H' : Hp} {x : V} {pl : Pl} (k : Kp p H H') (h : PlanI p C H x pl) : PlanI p C H' x pl := by
  obtain ⟨a, dx, ca, sl, fs, xs, e, h1, l1, l2, l3, h2, n, h3, h4⟩ := h.ex
  exact ⟨a, dx, ca, sl, fs, xs, e, k.ins h1, l1, l2, l3, k.tup h2, n, k.lst n h3, steps_kp k h4⟩
def sp_eq (K : PySem.W.Frag) (C : Addr) : Sp := fun vs H Q _ => ∃ (p : Addr) (x y : V) (pl : Pl), vs = [x, y] ∧ PlanI p C H x pl ∧ ((∃ pl', PlanI p C H y pl' ∧ Q (.bl (samePl pl pl')) H) ∨ ∃ n, Ty K H y n ∧ Q (.bl false) H)

/-- a plan that was made, whole -/
structure PlanF (C : Addr) (H : Hp) (x : V) (pl : Pl) (sl ql el : Addr) : Prop where
  ex : ∃ a ca xs ys, x = .ref a ∧ PlanX C a ca sl ql el H pl xs ys ∧ H ca = some (.tup (ivs pl.cs)) ∧ Paired (StepV H) xs pl.sts ∧ Paired (PieceA H) ys (allP pl.w 0 pl.sts)
  ok : OkP pl
structure PlanW (p C : Addr) (H : Hp) (x : V) (pl : Pl) : Prop where
  ex : ∃ sl ql el, PlanF C H x pl sl ql el ∧ sl ≠ p ∧ ql ≠ p ∧ el ≠ p
structure PlanN (C : Addr) (H0 H : Hp) (x : V) (pl : Pl) : Prop where
  ex : ∃ sl ql el, PlanF C H x pl sl ql el ∧ H0 sl = none ∧ H0 ql = none ∧ H0 el = none
theorem PlanF.kp {p C sl ql el : Addr} {H H' : Hp} {x : V} {pl : Pl} (h : PlanF C H x pl sl ql el) (k : Kp p H H') (n1 : sl ≠ p) (n2 : ql ≠ p) (n3 : el ≠ p) : PlanF C H' x pl sl ql el := by
  obtain ⟨a, ca, xs, ys, e, ⟨⟨dx, fs, h1, h2⟩, h3, h4, h5⟩, h6, h7, h8⟩ := h.ex
  exact ⟨⟨a, ca, xs, ys, e, ⟨⟨dx, fs, k.ins h1, h2⟩, k.lst n1 h3, k.lst n2 h4, k.lst n3 h5⟩, k.tup h6, steps_kp k h7, pieceA_kp k h8⟩, h.ok⟩
theorem PlanF.same {C sl ql el : Addr} {H H' : Hp} {x : V} {pl : Pl} (h : PlanF C H x pl sl ql el) (s : Same H H') : PlanF C H' x pl sl ql el := by
  obtain ⟨a, ca, xs, ys, e, ⟨⟨dx, fs, h1, h2⟩, h3, h4, h5⟩, h6, h7, h8⟩ := h.ex
  exact ⟨⟨a, ca, xs, ys, e, ⟨⟨dx, fs, s _ _ h1, h2⟩, s _ _ h3, s _ _ h4, s _ _ h5⟩, s _ _ h6, steps_same s h7, pieceA_st s h8⟩, h.ok⟩
theorem PlanW.kp {p C : Addr} {H H' : Hp} {x : V} {pl : Pl} (h : PlanW p C H x pl) (k : Kp p H H') : PlanW p C H' x pl := by
  obtain ⟨sl, ql, el, f, n1, n2, n3⟩ := h.ex
  exact ⟨sl, ql, el, f.kp k n1 n2 n3, n1, n2, n3⟩
theorem PlanW.same {p C : Addr} {H H' : Hp} {x : V} {pl : Pl} (h : PlanW p C H x pl) (s : Same H H') : PlanW p C H' x pl := h.kp (Kp.same s)
theorem PlanN.w {p C : Addr} {H0 H : Hp} {x : V} {pl : Pl} {o : HO} (h : PlanN C H0 H x pl) (e : H0 p = some o) : PlanW p C H x pl := by
  obtain ⟨sl, ql, el, f, n1, n2, n3⟩ := h.ex
  exact ⟨sl, ql, el, f, nofree e n1 |>.symm |> fun z => z.symm, nofree e n2, nofree e n3⟩
theorem PlanW.i {p C : Addr} {H : Hp} {x : V} {pl : Pl} (h : PlanW p C H x pl) : PlanI p C H x pl := by
  obtain ⟨sl, ql, el, f, n1, n2, n3⟩ := h.ex
  obtain ⟨a, ca, xs, ys, e, ⟨⟨dx, fs, h1, h2, h2', h2'', _⟩, h3, h4, h5⟩, h6, h7, h8⟩ := f.ex
  exact ⟨a, dx, ca, sl, fs, xs, e, h1, h2, h2', h2'', h6, n1, h3, h7⟩
theorem PlanW.ok {p C : Addr} {H : Hp} {x : V} {pl : Pl} (h : PlanW p C H x pl) : OkP pl := by
  obtain ⟨_, _, _, f, _⟩ := h.ex
  exact f.ok
/-- the classes' facts of the five properties -/
structure PropC (P : Program) (w : World) (K : PySem.W.Frag) (mg : Str → Option Value) (base : Heap) (C : Addr) (f : Str) (sp : Sp) : Prop where
  ex : ∃ p g fd, PropOf K C f p g ∧ FnOk P w K mg base CX0 1 g fd ["self"] sp ∧ Binds K fd ["self"] []
theorem pe_propC {X : Cx} {C : Addr} {f : Str} {sp : Sp} {e : Expr} {pos : Pos} {ta : TE} {j : Nat} (c : Cls X.K C) (h : PropC X.prog X.w X.K X.mg X.base C f sp) (hr : Room j X.A) (he : PE X e ta) (hj : 2 ≤ j := by decide) (hab : attributeBase e f X.env (eval e X.env) = eval e X.env := by rfl) :
    PE X (.Attribute e f pos) (tProp C sp [] E0 ta) := by
  obtain ⟨p, g, fd, hp, F, b⟩ := h.ex
  exact pe_prop he c hp F (hr.mono hj) b .nil pass0 hab
def sp_plan_of (C : Addr) : Sp := fun vs H Q _ => ∃ (p : Addr) (v : V) (pl : Pl), vs = [v] ∧ PlanV p H v pl ∧ OkP pl ∧ ∀ y H', Same H H' → PlanN C H H' y pl → Q y H'

theorem made_outW {K : PySem.W.Frag} {C : Addr} {wd : Int} {pl : Pl} {H G : Hp} {Q : VK} {E : XK} {x dx ca sa : Addr} {xs : List V} (hw : wd = pl.w) (hx : H x = none) (s0 : Same H G) (gx : G x = some (.ins C dx [])) (h1 : G ca = some (.tup (ivs pl.cs))) (h2 : G sa = some (.lst xs)) (h3 : Paired (StepV G) xs pl.sts) (okp : OkP pl)
    (k : ∀ H', Same H H' → PlanN C H H' (.ref x) pl → Q .non H') : sp_initX C [.ref x, .ref ca, .int wd, .ref sa] G Q E := by
  subst hw
  refine ⟨x, dx, ca, sa, pl, xs, rfl, gx, h1, h2, h3, okp, fun H' sl ql el fs ys ko nsl nql nel hx' l1 l2 l3 l4 l5 l6 l7 hsl hql hys hel => ?_⟩
  have s1 : Same H H' := fun b u e => ko b u (ne_of_none e hx) (s0 b u e)
  have nf : ∀ {c}, G c = none → H c = none := fun {c} e => s0.free e
  have kg : ∀ {c : Addr} {l : List V}, G c = some (.tup l) → H' c = some (.tup l) := fun {c l} e => ko c _ (ne_of e gx (by intro q; cases q)) e
  have st' : Paired (StepV H') xs pl.sts := L2.Paired.mapP h3 fun v st z => by
    cases st with
    | none => exact z
    | some fw =>
      obtain ⟨f, ws⟩ := fw
      obtain ⟨a, b, e, z1, z2⟩ := z
      exact ⟨a, b, e, kg z1, kg z2⟩
  exact k H' s1 ⟨sl, ql, el, ⟨⟨x, ca, xs, ys, rfl, ⟨⟨dx, fs, hx', l1, l2, l3, l4, l5, l6, l7⟩, hsl, hql, hel⟩, kg h1, st', hys⟩, okp⟩, nf nsl, nf nql, nf nel⟩
section
variable {P : Program} {w : World} {K : PySem.W.Frag} {mg : Str → Option Value} {base : Heap}
end
end Af

set_option Elab.async false
set_option linter.all false
set_option maxRecDepth 100000
namespace Af
open PySem PySem.Spec PyProof.Rows L2
/-! a method called where its error is caught -/
section
variable {X : Cx} {CX : CXT} {k : Nat} {f C : Addr} {fd : FuncData} {ps : List Str} {sp : Sp} {E : L2.St → XK} {m : Str} {pos apos : Pos} {e o : Expr} {es : List Expr} {ta : TE} {t : TA}
def tMethX (C : Addr) (m : Str) (sp : Sp) (E : L2.St → XK) (ta : TE) (t : TA) : TE := fun σ H Q => ta σ H fun x G => ∃ a dx fs, x = .ref a ∧ G a = some (.ins C dx fs) ∧ fs.lookup m = none ∧ t σ G fun vs G2 => sp (x :: vs) G2 Q (E σ)
theorem pe_methX {pl : Sem Bool} (he : PE X o ta) (c : Cls X.K C) (hm : Meth X.K C m f) (F : FnOk X.prog X.w X.K X.mg X.base CX k f fd ps sp) (room : Room k X.A) (b : Binds X.K fd ps []) (out : ∀ σ, PassesAt CX X σ (E σ)) (ha : PA X (e :: es) t)
    (h1 : starEach (e :: es) X.env = (false, eval e X.env) :: starEach es X.env := by rfl) (h2 : (backTo pos (starEach es X.env)).any (·.1) = false := by rfl)
    (h3 : eval (.Call (.Attribute o m apos) (e :: es) [] pos) X.env = (do
      let v ← eval o X.env
      standAt apos.atName
      let (g, own) ← holding [v] (getMethod v m pl)
      callWith pos g own (backTo pos (starEach (e :: es) X.env)) (backToKw pos (keywordEach [] X.env))) := by rfl) :
    PE X (.Call (.Attribute o m apos) (e :: es) [] pos) (tMethX C m sp E ta t) := by
  refine ⟨fun pins s σ H Q I h => PySem.W.methodCall_KW (pl := pl) (thn (he.run pins s σ H _ I h) fun u s1 z => ?_) h3⟩
  obtain ⟨x, G, I1, rx, a, dx, fs, ex, ea, l, q⟩ := z
  subst ex
  obtain rfl : u = Value.ref a := rx
  refine getmeth_ok I1 ea c hm l (PySem.W.callWith_K (first := [.ref a]) (h₀ := X.base) I.ok.mod.kin hm.kp (thn (ha.run pos pins s1 σ G _ I1 q) fun us s2 z => ?_) h1 h2)
  obtain ⟨vs, G2, I2, r, q2⟩ := z
  exact ⟨I2.kIn, run_fnS (us := .ref a :: us) (vs := .ref a :: vs) F room b (out σ) I2 (.cons rfl r) q2⟩
end
end Af

set_option Elab.async false
set_option linter.all false
set_option maxRecDepth 100000
set_option maxHeartbeats 4000000
namespace Af
open PySem L2
abbrev s_Plan_epoch_of : Stmt := inClass (top 29) 6
abbrev N_Plan_epoch_of : List Str := ["self", "piece"]
theorem sc_Plan_epoch_of : FnScope N_Plan_epoch_of ["self", "piece"] (defScope s_Plan_epoch_of) := ⟨rfl, rfl, rfl, by decide +kernel, rfl, by decide +kernel, by decide +kernel⟩

abbrev s_piece_epochs : Stmt := top 30
abbrev N_piece_epochs : List Str := ["plan", "piece"]
theorem sc_piece_epochs : FnScope N_piece_epochs ["plan"] (defScope s_piece_epochs) := ⟨rfl, rfl, rfl, by decide +kernel, rfl, by decide +kernel, by decide +kernel⟩

abbrev s_behind_piece : Stmt := top 32
abbrev N_behind_piece : List Str := ["content", "piece", "_", "first", "worths"]
theorem sc_behind_piece : FnScope N_behind_piece ["content", "piece"] (defScope s_behind_piece) := ⟨rfl, rfl, rfl, by decide +kernel, rfl, by decide +kernel, by decide +kernel⟩

/-- an own exception class without an __init__ of its own -/
structure ExcC (K : PySem.W.Frag) (mg : Str → Option Value) (n : Str) (C : Addr) : Prop where
  gP : mg n = some (.ref C)
  xP : PySem.W.excIn K C [.type "ValueError", .type "Exception", .type "BaseException", .type "object"] "ValueError.__new__" = true
  kP : PySem.W.keepIn K (.ref C) = true
  bP : PySem.W.subIn K (.ref C) (.type "BaseException") = some true
  tP : PySem.W.typeIn K (.ref C) = some (.type "type")
def sp_epoch_of (K : PySem.W.Frag) (C CE : Addr) : Sp := fun vs H Q E => ∃ (x ca sl ql el : Addr) (pl : Pl) (xs ys : List V) (v : V) (n : String), vs = [.ref x, v] ∧ PlanX C x ca sl ql el H pl xs ys ∧ ys.length = (allP pl.w 0 pl.sts).length ∧ Ty K H v n ∧
  (∀ (i : Nat) (e : Int), v = .int i → (pieceE pl.sts (allP pl.w 0 pl.sts))[i]? = some e → Q (.int e) H) ∧ (idxB ys.length v = false → E (.ref CE) none H)
theorem PlanX.px {C x ca sl ql el : Addr} {H : Hp} {pl : Pl} {xs ys : List V} (h : PlanX C x ca sl ql el H pl xs ys) : ∃ dx fs, H x = some (.ins C dx fs) ∧ fs.lookup ("epoch_of" : Str) = none := by
  obtain ⟨⟨dx, fs, a, b⟩, c⟩ := h
  obtain ⟨_, _, _, _, _, _, q⟩ := b
  exact ⟨dx, fs, a, q⟩
theorem PlanX.same {C x ca sl ql el : Addr} {H H' : Hp} {pl : Pl} {xs ys : List V} (h : PlanX C x ca sl ql el H pl xs ys) (s : Same H H') : PlanX C x ca sl ql el H' pl xs ys := by
  obtain ⟨⟨dx, fs, h1, h2⟩, h3, h4, h5⟩ := h
  exact ⟨⟨dx, fs, s _ _ h1, h2⟩, s _ _ h3, s _ _ h4, s _ _ h5⟩
theorem passN {P : Program} {w : World} {X : Cx} (hp : X.prog = P) (hw : X.w = w) (σ : L2.St) : PassesAt (L2.CX P w) X σ E0 := by
  subst hp hw
  intro pins H s e s' I c
  obtain ⟨_, _, _, _, _, _, _, _, _, _, _, _, q⟩ := c
  exact q.elim
/-- the pieces' epochs -/
def rkP (pl : Pl) : List Int := pieceE pl.sts (allP pl.w 0 pl.sts)
theorem rkP_len (pl : Pl) : (rkP pl).length = (allP pl.w 0 pl.sts).length := by
  unfold rkP pieceE
  rw [List.length_map]
def sp_pe (C : Addr) : Sp := fun vs H Q _ => ∃ (x : V) (pl : Pl) (sl ql el : Addr), vs = [x] ∧ PlanF C H x pl sl ql el ∧ ∀ l H', Same H H' → H l = none → H' l = some (.lst (ivs (rkP pl))) → Q (.ref l) H'
theorem spl_in {w : Int} : ∀ (r acc : List Int) (st pos : Int), pos = st + (acc.length : Int) → ∀ p ∈ spl w st acc pos r, st ≤ p.1 ∧ p.1 + (p.2.length : Int) ≤ pos + (r.length : Int)
  | [], acc, st, pos, h, p, hp => by
    have e : p = (st, acc) := List.mem_singleton.mp hp
    subst e
    refine ⟨Int.le_refl _, ?_⟩
    show st + (acc.length : Int) ≤ pos + ((0 : Nat) : Int)
    omega
  | x :: r, acc, st, pos, h, p, hp => by
    have le : (((x :: r).length : Nat) : Int) = (r.length : Int) + 1 := by rw [List.length_cons]; rfl
    by_cases c : acc ≠ [] ∧ pos % w = 0
    · rw [spl_cut c] at hp
      rcases List.mem_cons.mp hp with e | hp
      · subst e
        refine ⟨Int.le_refl _, ?_⟩
        show st + (acc.length : Int) ≤ _
        omega
      · obtain ⟨h1, h2⟩ := spl_in r [x] pos (pos + 1) (by show pos + 1 = pos + ((1 : Nat) : Int); rfl) p hp
        omega
    · rw [spl_go c] at hp
      obtain ⟨h1, h2⟩ := spl_in r (acc ++ [x]) st (pos + 1) (by rw [List.length_append]; show pos + 1 = st + ((acc.length + 1 : Nat) : Int); omega) p hp
      omega
theorem allP_fit {w : Int} {n : Nat} : ∀ {l : List Stp} {i : Nat}, (∀ x ∈ l, OkS n x) → ∀ p ∈ allP w i l, 0 ≤ p.2.1 ∧ p.2.1 + (p.2.2.length : Int) ≤ (n : Int)
  | [], _, _, p, hp => by cases hp
  | a :: l, i, h, p, hp => by
    have hp : p ∈ oneP w i a ++ allP w (i + 1) l := hp
    rcases List.mem_append.mp hp with hp | hp
    · have o := h a List.mem_cons_self
      cases a with
      | none => cases hp
      | some fw =>
        obtain ⟨f, ws⟩ := fw
        obtain ⟨o1, o2, o3, _⟩ := o
        obtain ⟨q, hq, rfl⟩ := List.mem_map.mp hp
        obtain ⟨h1, h2⟩ := spl_in ws [] f f (by show f = f + ((0 : Nat) : Int); omega) q hq
        show 0 ≤ q.1 ∧ q.1 + (q.2.length : Int) ≤ (n : Int)
        omega
    · exact allP_fit (fun x hx => h x (List.mem_cons_of_mem _ hx)) p hp
/-- a content behind a piece, behind a fall -/
def behF (c : List Int) (p : Int × (Int × List Int)) : List Int := c.take p.2.1.toNat ++ p.2.2 ++ c.drop (p.2.1.toNat + p.2.2.length)
def pcAt (ps : List (Int × (Int × List Int))) (k : Nat) : Int × (Int × List Int) := ps.getD k (0, (0, []))
theorem behF_len {c : List Int} {p : Int × (Int × List Int)} (h0 : 0 ≤ p.2.1) (h1 : p.2.1 + (p.2.2.length : Int) ≤ (c.length : Int)) : (behF c p).length = c.length := by
  unfold behF
  rw [List.length_append, List.length_append, List.length_take, List.length_drop]
  omega
theorem cut_fr (xs : List V) (n : Nat) : cutV xs (some (n : Int)) none = xs.drop n := by
  unfold cutV
  have e1 : HT.sIx xs.length 0 (some (n : Int)) = min n xs.length := HT.sIx_nat _ _ n
  have e2 : HT.sIx xs.length xs.length none = xs.length := rfl
  rw [e1, e2]
  by_cases h : n ≤ xs.length
  · rw [Nat.min_eq_left h, List.take_of_length_le (by rw [List.length_drop]; exact Nat.le_refl _)]
  · rw [Nat.min_eq_right (by omega), Nat.sub_self, List.take_zero, List.drop_of_length_le (by omega)]
theorem ivs_take (c : List Int) (n : Nat) : (ivs c).take n = ivs (c.take n) := by unfold ivs; rw [List.map_take]
theorem ivs_drop (c : List Int) (n : Nat) : (ivs c).drop n = ivs (c.drop n) := by unfold ivs; rw [List.map_drop]
theorem ivs_app (a b : List Int) : ivs a ++ ivs b = ivs (a ++ b) := by unfold ivs; rw [List.map_append]
theorem cut_to (xs : List V) (n : Nat) : cutV xs none (some (n : Int)) = xs.take n := by
  unfold cutV
  have : HT.sIx xs.length xs.length (some (n : Int)) = min n xs.length := HT.sIx_nat _ _ n
  rw [this, HT.sIx_none, List.drop_zero, Nat.sub_zero]
  by_cases h : n ≤ xs.length
  · rw [Nat.min_eq_left h]
  · rw [Nat.min_eq_right (by omega), List.take_length, List.take_of_length_le (by omega)]
def sp_behind : Sp := fun vs H Q _ => ∃ (ca : Addr) (c : List Int) (x : V) (p : Int × (Int × List Int)), vs = [.ref ca, x] ∧ H ca = some (.tup (ivs c)) ∧ PieceA H x p ∧ 0 ≤ p.2.1 ∧ p.2.1 + (p.2.2.length : Int) ≤ (c.length : Int) ∧ c.length ≤ 1000 ∧ ∀ a H', Same H H' → H' a = some (.tup (ivs (behF c p))) → Q (.ref a) H'
section
variable {P : Program} {w : World} {K : PySem.W.Frag} {mg : Str → Option Value} {base : Heap}
theorem ok_epoch_of {f C CE : Addr} {fd : FuncData} (F : Fun K "epoch_of" "Plan.epoch_of" s_Plan_epoch_of f fd) (T : Txt mg) (TC : PlanC K mg C) (X : ExcC K mg "UnknownPiece" CE)
    (c_is_index : Cal P w K mg base 2 "is_index" ["thing", "many"] (sp_is_index K)) :
    FnOk P w K mg base (L2.CX P w) 3 f fd ["self", "piece"] (sp_epoch_of K C CE) := by
  refine F.okX sc_Plan_epoch_of (fun vs H Q E h => ?_) (fun cdv A outer s H vs Q E hr h => ?_)
  · obtain ⟨_, _, _, _, _, _, _, _, _, _, rfl, _⟩ := h
    rfl
  obtain ⟨x, ca, sl, ql, el, pl, xs, ys, v, n, rfl, ⟨⟨dx, fs, hx, hB, hW, hS, hP, hE, hN, hM⟩, h1, h2, h3⟩, hlen, ht, kg, kb⟩ := h
  refine ⟨_, (pss_cons (ps_if (pt_not (pt_val (pe_cal c_is_index hr (pa_cons (pv 1) (pa_cons (pe_callB call_len' (by rfl) T.len (by decide +kernel) (pa_cons (pe_fld (pv 0) rfl) pa_nil)) pa_nil)))))
      (pss_one (ps_raise rfl (takes_of rfl rfl rfl rfl) (pmk_own PySem.F.excBase_ValueError X.xP X.gP X.kP (raises_own X.bP X.tP) rfl)))
      pss_nil)
    (pss_one (ps_ret (pe_ix ix_seq' (pe_fld (pv 0) rfl) (pv 1) (fun _ _ => rfl))))), ?_⟩
  refine ⟨_, rfl, _, rfl, x, C, dx, fs, _, rfl, hx, TC.cl, TC.nP, hP, ql, ys, rfl, .inl h2, _, _, n, rfl, ht, ?_⟩
  refine ⟨_, rfl, ?_⟩
  cases e : idxB (ys.length : Int) v with
  | false => exact kb e
  | true =>
    obtain ⟨z, rfl⟩ : ∃ z, v = .int z := by
      cases v with
      | int z => exact ⟨z, rfl⟩
      | _ => cases e
    have e' : (decide (0 ≤ z) && decide (z < (ys.length : Int))) = true := e
    rw [Bool.and_eq_true] at e'
    have z0 := of_decide_eq_true e'.1
    have z1 := of_decide_eq_true e'.2
    obtain ⟨i, rfl⟩ := Int.eq_ofNat_of_zero_le z0
    have pl' : (pieceE pl.sts (allP pl.w 0 pl.sts)).length = ys.length := by
      unfold pieceE
      rw [List.length_map, hlen]
    have il : i < (pieceE pl.sts (allP pl.w 0 pl.sts)).length := by omega
    exact ⟨_, rfl, x, C, dx, fs, _, rfl, hx, TC.cl, TC.nE, hE, _, rfl, el, _, _, _, rfl, rfl, .inl h3, atI_nat (ivs_get il), kg i _ rfl (List.getElem?_eq_getElem il)⟩
theorem ok_pe {f C CE fI : Addr} {fd fdI : FuncData} (F : Fun K "piece_epochs" "piece_epochs" s_piece_epochs f fd) (T : Txt mg) (TC : PlanC K mg C) (M_eo : Meth K C "epoch_of" fI)
    (G_eo : FnOk P w K mg base (L2.CX P w) 3 fI fdI ["self", "piece"] (sp_epoch_of K C CE)) (b_eo : Binds K fdI ["self", "piece"] [])
    (P_pieces : PropC P w K mg base C "pieces" (sp_p_pieces C)) : FnOk P w K mg base CX0 4 f fd ["plan"] (sp_pe C) := by
  refine F.ok sc_piece_epochs (fun vs H Q E h => ?_) (fun cdv A outer s H vs Q E hr h => ?_)
  · obtain ⟨_, _, _, _, _, rfl, _⟩ := h
    rfl
  obtain ⟨xv, pl, sl, ql, el, rfl, pF, k⟩ := h
  obtain ⟨x, ca, xs, ys, rfl, px, hca, hxs, hys⟩ := pF.ex
  have o := pF.ok
  obtain ⟨dx, fs, hx, hM⟩ := px.px
  have yl := paired_len hys
  have pel : (pieceE pl.sts (allP pl.w 0 pl.sts)).length = ys.length := by
    unfold pieceE
    rw [List.length_map, yl]
  refine ⟨_, (pss_one (ps_ret (pe_lc (own := [("piece", 1)]) (g := (gName 1)) (tt := tYes) rfl sc_piece_epochs.nd (pi_range1 rfl T.range (pa_cons (pe_callB call_len' (by rfl) T.len (by decide +kernel) (pa_cons (pe_propC TC.cl P_pieces hr (pv 0)) pa_nil)) pa_nil)) (blkOk_by (own := [("piece", 1)]) (N := N_piece_epochs) (sc := defScope s_piece_epochs) (by decide +kernel)) (fun _ _ _ _ _ => pg_name (i := 1) sc_piece_epochs.nd rfl (Or.inl rfl)) (fun _ _ _ _ _ => pts_nil) (fun _ _ _ _ _ => (pe_methX (E := fun _ => E0) (pl := _) (pv 0) TC.cl M_eo G_eo (hr.mono (by decide)) b_eo (passN rfl rfl) (pa_cons (pv 1) pa_nil)))))), ?_⟩
  refine ⟨_, rfl, x, dx, fs, rfl, hx, x, ca, sl, ql, el, pl, xs, ys, rfl, px, fun l1 H1 s1 n1 h1 => ?_⟩
  have px1 := px.same s1
  refine ⟨l1, _, rfl, .inl h1, _, rfl, ?_, ?_, fun D hD => lc_range (lo := 0) (fun i H' => Same H1 H' ∧ H' D = some (.lst (ivs ((pieceE pl.sts (allP pl.w 0 pl.sts)).take i)))) ?_ ?_ ?_⟩
  · omega
  · have := o.pc
    omega
  · exact ⟨same_new hD, upd_same⟩
  · rintro j H8 hj ⟨s8, h8⟩
    have hj' : j < ys.length := by omega
    have px8 := px1.same s8
    refine ⟨rfl, _, rfl, x, dx, fs, rfl, s8 _ _ (s1 _ _ hx), hM, _, rfl, x, ca, sl, ql, el, pl, xs, ys, _, "int", rfl, px8, yl, ⟨.int _, by decide, fun _ _ _ e => by cases e⟩, fun j' e hv he => ?_, fun z => ?_⟩
    · have ej : j' = j := by
        have z : (0 : Int) + (j : Int) = (j' : Int) := by injection hv
        omega
      subst ej
      refine ⟨_, h8, szl (by rw [ivs_len, List.length_take]; have := o.pc; omega), same_mut s8 hD, ?_⟩
      rw [upd_same, List.take_add_one, he]
      unfold ivs
      rw [List.map_append]
      rfl
    · have : idxB (ys.length : Int) (.int (0 + (j : Int))) = true := by
        show (decide (0 ≤ 0 + (j : Int)) && decide (0 + (j : Int) < ys.length)) = true
        rw [decide_eq_true (by omega), decide_eq_true (by omega)]
        rfl
      rw [this] at z
      cases z
  rintro H8 ⟨s8, h8⟩
  rw [List.take_of_length_le (by rw [pel]; omega)] at h8
  exact k D H8 (s1.trans s8) (s1.free hD) h8
theorem ok_behind {f : Addr} {fd : FuncData} (F : Fun K "behind_piece" "behind_piece" s_behind_piece f fd) (T : Txt mg) : FnOk P w K mg base CX0 1 f fd ["content", "piece"] sp_behind := by
  refine F.ok sc_behind_piece (fun vs H Q E h => ?_) (fun cdv A outer s H vs Q E hr h => ?_)
  · obtain ⟨_, _, _, _, rfl, _⟩ := h
    rfl
  obtain ⟨ca, c, x, ⟨ix, pf, ws⟩, rfl, hca, ⟨t, b, rfl, ht, hb⟩, h0, h1, cl, k⟩ := h
  have h0 : 0 ≤ pf := h0
  have h1 : pf + (ws.length : Int) ≤ (c.length : Int) := h1
  have hb : H b = some (.tup (ivs ws)) := hb
  obtain ⟨n, rfl⟩ := Int.eq_ofNat_of_zero_le h0
  refine ⟨_, (pss_cons (ps_asg (pv 1) (pg_tup rfl (pgs_cons (pg_name (i := 2) sc_behind_piece.nd rfl (Or.inl rfl)) (pgs_cons (pg_name (i := 3) sc_behind_piece.nd rfl (Or.inl rfl)) (pgs_cons (pg_name (i := 4) sc_behind_piece.nd rfl (Or.inl rfl)) pgs_nil)))))
    (pss_one (ps_ret (pe_op op_catT' (pe_op op_catT' (pe_slice sl_tup' (pv 0) po_none (po_some (pv 3))) (pv 4)) (pe_slice sl_tup' (pv 0) (po_some (pe_op op_add (pv 3) (pe_callB call_len' (by rfl) T.len (by decide +kernel) (pa_cons (pv 4) pa_nil)))) po_none))))), ?_⟩
  refine ⟨_, rfl, t, _, rfl, SqT.of ht, rfl, _, _, rfl, _, _, rfl, _, _, rfl, rfl, ?_⟩
  refine ⟨_, rfl, _, rfl, _, rfl, ca, _, rfl, hca, fun a1 H1 s1 j1 => ?_⟩
  refine ⟨_, rfl, a1, b, _, _, rfl, rfl, j1, s1 _ _ hb, sz ?_, fun a2 H2 s2 j2 => ?_⟩
  · refine Nat.le_trans (Nat.add_le_add (cutV_length _ _ _) (Nat.le_refl _)) ?_
    rw [ivs_len, ivs_len]
    omega
  rw [cut_to, ivs_take, ivs_app] at j2
  have S2 := s1.trans s2
  refine ⟨_, rfl, _, rfl, _, rfl, b, _, rfl, .inr (S2 _ _ hb), _, _, rfl, rfl, _, rfl, ca, _, rfl, S2 _ _ hca, fun a3 H3 s3 j3 => ?_⟩
  rw [ivs_len, show ((n : Nat) : Int) + ((ws.length : Nat) : Int) = ((n + ws.length : Nat) : Int) from rfl, cut_fr, ivs_drop] at j3
  refine ⟨a2, a3, _, _, rfl, rfl, s3 _ _ j2, j3, sz ?_, fun a4 H4 s4 j4 => ?_⟩
  · rw [ivs_len, ivs_len, List.length_append, List.length_take, List.length_drop]
    omega
  rw [ivs_app] at j4
  exact k a4 H4 (S2.trans (s3.trans s4)) j4
end
end Af

set_option Elab.async false
set_option linter.all false
set_option maxRecDepth 100000
set_option maxHeartbeats 2000000
namespace Af
open PySem PySem.Calls PySem.Spec PyProof.Rows L2
/-! len(x) of an instance whose class has its own __len__ -/
structure LenC (K : PySem.W.Frag) (C f : Addr) : Prop where
  ln : PySem.W.findIn K (.ref C) "__len__" = some (some (.ref f))
  fn : PySem.W.isFn K (.ref f) = true
def rLenO (C : Addr) (sp : Sp) : List V → Hp → VK → Prop := fun xs H Q => ∃ a dx fs, xs = [.ref a] ∧ H a = some (.ins C dx fs) ∧ sp [.ref a] H (fun v H' => ∃ n : Nat, v = .int (n : Int) ∧ (n : Int) < 2 ^ 63 ∧ Q (.int (n : Int)) H') E0
section
variable {X : Cx} {C f : Addr} {fd : FuncData} {ps : List Str} {sp : Sp} {k n : Nat}
theorem own_run1 (G : FnOk X.prog X.w X.K X.mg X.base CX0 k f fd ps sp) (hb : Binds X.K fd ps []) {A : Around} (hr : Room k A) (hA : A.frames = X.A.frames) {pins : List (Addr × Obj)} {s : Shared} {σ : L2.St} {H : Hp} {x : V} {v : Value} (I : Inv X pins σ H s) (rx : RelV x v)
    {Q : VK} (hq : sp [x] H Q E0) : wpAny (model X.prog X.w) A (call (.ref f) [v]) (fun r s' => EP X pins σ Q r s') X.xe s := by
  have e0 : Env0 X.prog X.w X.K X.mg X.base A X.stack s H := by
    have e := I.env0
    exact ⟨by rw [hA]; exact e.frames, e.mod, e.bs, e.bsz, e.funs, e.frf, e.hok, e.bare⟩
  have hl := G.len _ _ _ _ hq
  refine wpAny_call (codeAny_mono (G.run A X.stack s H ⟨[v], []⟩ [v] [x] _ E0 hr e0 (by
    have := hb s [v] I.kIn (by simpa using hl)
    simpa using this) (.cons rx .nil) hq) fun r s' z => ?_)
  cases r with
  | error e => exact pass0 pins σ H s e s' I z
  | ok fl =>
    cases fl with
    | ret w => exact I.after z
    | next => exact False.elim z
    | brk => exact False.elim z
    | cont => exact False.elim z
theorem call_lenO (O : LenC X.K C f) (G : FnOk X.prog X.w X.K X.mg X.base CX0 k f fd ps sp) (hb : Binds X.K fd ps []) (hr : Room n X.A) (hkn : k + 1 ≤ n := by decide) : CallR X (.builtin "len") (rLenO C sp) := by
  intro pins s σ H xs us Q I r h
  obtain ⟨a, dx, fs, rfl, ha, q⟩ := h
  obtain rfl := Vals.ref1 r
  obtain ⟨mA, J, _⟩ := ins_get I.hok ha
  obtain ⟨od, J, _⟩ := J.look
  have KI := I.kIn
  refine Calls.call_function_entry kind_len plain_len entry_len (args_len1 _) ?_
  unfold Builtin.«len»
  refine wpAny_bind (m := oneArg "len" _) (wpAny_pure ?_)
  refine wpAny_bind (m := callSpecial? (.ref a) (PySem.Str.ofString "__len__")) (PySem.W.special_fn KI J O.ln (beq_iff_eq.mp O.fn) (wpAny_mono (own_run1 G hb (A := X.A.in1) ((hr.mono hkn).in1) rfl (x := .ref a) I rfl q) (fun v s' z => ?_) fun _ _ z => z))
  obtain ⟨v', H', I', rv, m, e, hm, z⟩ := z
  subst e
  obtain ⟨t, rfl⟩ := rv
  refine wpAny_bind (wpAny_holding (wpAny_pure ?_))
  refine wpAny_bind (wpAny_letGo ?_)
  show wpAny _ _ (if ((m : Nat) : Int) < 0 then _ else _) _ _ _
  rw [if_neg (by omega)]
  show wpAny _ _ (if ((m : Nat) : Int) ≥ 2 ^ 63 then _ else _) _ _ _
  rw [if_neg (by omega)]
  exact wpAny_bind (wpAny_mkInt (wpAny_pure ⟨_, rfl, .int (m : Int), H', I'.tok _, ⟨_, rfl⟩, z⟩))
end
end Af

set_option Elab.async false
set_option linter.all false
set_option maxRecDepth 100000
namespace Af
open PySem PySem.Spec PyProof.Rows L2
/-! a method without arguments called where its error is caught; objects that change, and the heap without them -/
section
variable {X : Cx} {CX : CXT} {k : Nat} {f C : Addr} {fd : FuncData} {ps : List Str} {sp : Sp} {E : L2.St → XK} {m : Str} {pos apos : Pos} {o : Expr} {ta : TE}
theorem pe_meth0X {pl : Sem Bool} (he : PE X o ta) (c : Cls X.K C) (hm : Meth X.K C m f) (F : FnOk X.prog X.w X.K X.mg X.base CX k f fd ps sp) (room : Room k X.A) (b : Binds X.K fd ps []) (out : ∀ σ, PassesAt CX X σ (E σ))
    (h3 : eval (.Call (.Attribute o m apos) [] [] pos) X.env = (do
      let v ← eval o X.env
      standAt apos.atName
      let (g, own) ← holding [v] (getMethod v m pl)
      callWith pos g own (backTo pos (starEach [] X.env)) (backToKw pos (keywordEach [] X.env))) := by rfl) :
    PE X (.Call (.Attribute o m apos) [] [] pos) (tMethX C m sp E ta tNil) := by
  refine ⟨fun pins s σ H Q I h => PySem.W.methodCall_KW (pl := pl) (thn (he.run pins s σ H _ I h) fun u s1 z => ?_) h3⟩
  obtain ⟨x, G, I1, rx, a, dx, fs, ex, ea, l, q⟩ := z
  subst ex
  obtain rfl : u = Value.ref a := rx
  refine getmeth_ok I1 ea c hm l (PySem.W.callWith_K0 (first := [.ref a]) I1.kIn hm.kp ?_)
  exact run_fnS (us := [.ref a]) (vs := [.ref a]) F room b (out σ) I1 (.cons rfl .nil) q
theorem pass0A : ∀ σ, PassesAt CX0 X σ ((fun _ => E0) σ) := fun _ _ _ _ _ _ _ h => h.elim
end
/-- an own class, its fields' names -/
structure ObjC (K : PySem.W.Frag) (mg : Str → Option Value) (n : Str) (C : Addr) (fs : List Str) : Prop where
  cl : Cls K C
  no : ∀ f ∈ fs, NoAttr K C f
  mgC : mg n = some (.ref C)
/-- the heap without what stands at L -/
def hl (L : List Addr) (H : Hp) : Hp := fun a => if a ∈ L then none else H a
theorem hl_at {L : List Addr} {H : Hp} {a : Addr} (h : a ∉ L) : hl L H a = H a := if_neg h
theorem hl_in {L : List Addr} {H : Hp} : Same (hl L H) H := fun a o e => by
  unfold hl at e
  by_cases m : a ∈ L
  · rw [if_pos m] at e
    cases e
  · rw [if_neg m] at e
    exact e
theorem hl_not {L : List Addr} {H : Hp} {a : Addr} {o : HO} (e : hl L H a = some o) : a ∉ L := fun m => by
  unfold hl at e
  rw [if_pos m] at e
  cases e
theorem hl_same {L : List Addr} {H H' : Hp} (s : Same H H') : Same (hl L H) (hl L H') := fun a o e => by
  have n := hl_not e
  rw [hl_at n] at e ⊢
  exact s a o e
/-- all stands but what is named -/
def Fr (M : List Addr) (H H' : Hp) : Prop := ∀ a o, a ∉ M → H a = some o → H' a = some o
theorem Fr.refl {M : List Addr} {H : Hp} : Fr M H H := fun _ _ _ e => e
theorem Fr.trans {M : List Addr} {H H1 H2 : Hp} (a : Fr M H H1) (b : Fr M H1 H2) : Fr M H H2 := fun c o n e => b c o n (a c o n e)
theorem Fr.of {M : List Addr} {H H' : Hp} (s : Same H H') : Fr M H H' := fun a o _ e => s a o e
theorem Fr.mono {M N : List Addr} {H H' : Hp} (f : Fr M H H') (h : ∀ a ∈ M, a ∈ N) : Fr N H H' := fun a o n e => f a o (fun m => n (h a m)) e
theorem Fr.hl {M L : List Addr} {H H' : Hp} (f : Fr M H H') (h : ∀ a ∈ M, a ∈ L) : Same (hl L H) (Af.hl L H') := fun a o e => by
  have n := hl_not e
  rw [hl_at n] at e ⊢
  exact f a o (fun m => n (h a m)) e
theorem Fr.upd {M : List Addr} {H H' : Hp} {a : Addr} {o : HO} (f : Fr M H H') (h : a ∈ M) : Fr M H (L2.upd H' a o) := fun b u n e => by
  rw [upd_ne (fun z => n (by rw [z]; exact h))]
  exact f b u n e
theorem Fr.kp {p : Addr} {H H' : Hp} (k : Kp p H H') : Fr [p] H H' := fun a o n e => k a o (.inl fun z => n (by rw [z]; exact List.mem_singleton.mpr rfl)) e
/-- more is hidden that is new -/
theorem hl_more {L N : List Addr} {H H' : Hp} (s : Same (hl L H) (hl L H')) (n : ∀ a ∈ N, H a = none) : Same (hl L H) (hl (N ++ L) H') := fun a o e => by
  have nl := hl_not e
  have e2 := s a o e
  have e1 := hl_in _ _ e
  rw [hl_at nl] at e2
  rw [hl_at (fun m => ?_)]
  · exact e2
  · rcases List.mem_append.mp m with m | m
    · rw [n a m] at e1
      cases e1
    · exact nl m
/-- what is hidden: lists, and instances of the class R -/
def Lok (R : Addr) (L : List Addr) (H : Hp) : Prop := ∀ a ∈ L, (∃ xs, H a = some (.lst xs)) ∨ ∃ dx fs, H a = some (.ins R dx fs)
theorem Lok.same {R : Addr} {L : List Addr} {H H' : Hp} (h : Lok R L H) (s : Same H H') : Lok R L H' := fun a m => by
  rcases h a m with ⟨xs, e⟩ | ⟨dx, fs, e⟩
  · exact .inl ⟨xs, s _ _ e⟩
  · exact .inr ⟨dx, fs, s _ _ e⟩
theorem Lok.upd {R : Addr} {L : List Addr} {H : Hp} {a : Addr} {o : HO} (h : Lok R L H) (n : (∃ xs, o = .lst xs) ∨ ∃ dx fs, o = .ins R dx fs) : Lok R L (L2.upd H a o) := fun b m => by
  by_cases e : b = a
  · subst e
    rw [upd_same]
    rcases n with ⟨xs, rfl⟩ | ⟨dx, fs, rfl⟩
    · exact .inl ⟨xs, rfl⟩
    · exact .inr ⟨dx, fs, rfl⟩
  · rw [upd_ne e]
    exact h b m
theorem Lok.new {R : Addr} {L : List Addr} {H : Hp} {a : Addr} (h : Lok R L H) (n : H a = none) : a ∉ L := fun m => by
  rcases h a m with ⟨xs, e⟩ | ⟨dx, fs, e⟩ <;> (rw [n] at e; cases e)
theorem Lok.tup {R : Addr} {L : List Addr} {H : Hp} {a : Addr} {xs : List V} (h : Lok R L H) (n : H a = some (.tup xs)) : a ∉ L := fun m => by
  rcases h a m with ⟨xs, e⟩ | ⟨dx, fs, e⟩ <;> (rw [n] at e; cases e)
theorem Lok.ins {R C : Addr} {L : List Addr} {H : Hp} {a dx : Addr} {fs : List (Str × V)} (h : Lok R L H) (n : H a = some (.ins C dx fs)) (ne : C ≠ R) : a ∉ L := fun m => by
  rcases h a m with ⟨xs, e⟩ | ⟨dx, fs, e⟩
  · rw [n] at e; cases e
  · rw [n] at e
    have := Option.some.inj e
    injection this with this
    exact ne this
theorem Lok.app {R : Addr} {L N : List Addr} {H : Hp} (h : Lok R L H) (n : Lok R N H) : Lok R (N ++ L) H := fun a m => by
  rcases List.mem_append.mp m with m | m
  · exact n a m
  · exact h a m
theorem putF_len {f : Str} {v u : V} : ∀ {fs : List (Str × V)}, fs.lookup f = some u → (putF f v fs).length = fs.length
  | [], h => by cases h
  | (g, x) :: r, h => by
    unfold putF
    by_cases e : g = f
    · rw [if_pos e]
      rfl
    · rw [if_neg e, List.length_cons, List.length_cons]
      congr 1
      refine putF_len (f := f) (v := v) (u := u) ?_
      rw [List.lookup_cons] at h
      have : (f == g) = false := by simpa using fun z => e z.symm
      rw [this] at h
      exact h
theorem nd_len : ∀ (n : Nat) (l : List Nat), l.Nodup → (∀ k ∈ l, k < n) → l.length ≤ n
  | 0, [], _, _ => Nat.le_refl _
  | 0, x :: _, _, h => absurd (h x List.mem_cons_self) (Nat.not_lt_zero _)
  | n + 1, l, nd, h => by
    have ih := nd_len n (l.erase n) (nd.erase n) fun k hk => by
      have h1 := h k (List.mem_of_mem_erase hk)
      have h2 : k ≠ n := fun e => by
        rw [e] at hk
        exact nd.not_mem_erase hk
      omega
    by_cases m : n ∈ l
    · rw [List.length_erase_of_mem m] at ih
      omega
    · rw [List.erase_of_not_mem m] at ih
      omega
end Af

set_option Elab.async false
set_option linter.all false
set_option maxRecDepth 100000
set_option maxHeartbeats 8000000
namespace Af
open PySem L2
abbrev s_State___init : Stmt := inClass (top 35) 0
abbrev N_State___init : List Str := ["self", "active", "ranks", "arrived", "held"]
theorem sc_State___init : FnScope N_State___init ["self", "active", "ranks", "arrived", "held"] (defScope s_State___init) := ⟨rfl, rfl, rfl, by decide +kernel, rfl, by decide +kernel, by decide +kernel⟩

abbrev s_begun : Stmt := top 36
abbrev N_begun : List Str := ["plan"]
theorem sc_begun : FnScope N_begun ["plan"] (defScope s_begun) := ⟨rfl, rfl, rfl, by decide +kernel, rfl, by decide +kernel, by decide +kernel⟩

def sp_roomE : Sp := fun vs H Q _ => ∃ (wd : Int) (a : Addr) (xs : List V) (sts : List Stp), vs = [.int wd, .ref a] ∧ H a = some (.lst xs) ∧ Paired (StepV H) xs sts ∧ 0 < wd ∧ xs.length ≤ 100 ∧ (∀ x ∈ sts, OkS 24 x) ∧
  ∀ H', Same H H' → Q (.bl (decide (xs.length ≤ 40) && decide ((allP wd 0 sts).length ≤ 40))) H'
theorem op_inK {X : Cx} {K : PySem.W.Frag} (hK : X.K = K) : OpR X (compareOp .In) (rIn K false) := by
  subst hK
  exact op_in_seq
theorem op_notInK {X : Cx} {K : PySem.W.Frag} (hK : X.K = K) : OpR X (compareOp .NotIn) (rIn K true) := by
  subst hK
  exact op_notIn_seq
theorem in_ivs (z : Int) : ∀ cs : List Int, inV (.int z) (ivs cs) = cs.contains z
  | [] => rfl
  | c :: cs => by
    show (eqV (.int c) (.int z) || inV (.int z) (ivs cs)) = _
    rw [in_ivs z cs, List.contains_cons]
    congr 1
    show (c == z) = (z == c)
    exact BEq.comm
theorem flat_ivs (cs : List Int) : (ivs cs).all flatV = true := List.all_eq_true.mpr fun x hx => by
  obtain ⟨z, _, rfl⟩ := List.mem_map.mp hx
  rfl
def nvs (ps : List Nat) : List V := ivs (ps.map fun p => ((p : Nat) : Int))
theorem nvs_len (ps : List Nat) : (nvs ps).length = ps.length := by
  unfold nvs
  rw [ivs_len, List.length_map]
theorem nvs_get {ps : List Nat} {k : Nat} (h : k < ps.length) : (nvs ps)[k]? = some (.int ((ps[k] : Nat) : Int)) := by
  unfold nvs ivs
  rw [List.getElem?_map, List.getElem?_map, List.getElem?_eq_getElem h]
  rfl
theorem in_nvs (z : Nat) : ∀ ps : List Nat, inV (.int (z : Int)) (nvs ps) = ps.contains z
  | [] => rfl
  | c :: cs => by
    show (eqV (.int (c : Int)) (.int (z : Int)) || inV (.int (z : Int)) (nvs cs)) = _
    rw [in_nvs z cs, List.contains_cons]
    congr 1
    show ((c : Int) == (z : Int)) = (z == c)
    rw [Bool.eq_iff_iff, beq_iff_eq, beq_iff_eq]
    omega
theorem nvs_take (ps : List Nat) (k : Nat) : (nvs ps).take k = nvs (ps.take k) := by
  unfold nvs ivs
  rw [← List.map_take, ← List.map_take]
theorem iteT' {c : Bool} {p q : Prop} (h : c = true) (k : p) : if c = true then p else q := by rw [if_pos h]; exact k
theorem iteF' {c : Bool} {p q : Prop} (h : c = false) (k : q) : if c = true then p else q := by rw [if_neg (by rw [h]; decide)]; exact k
/-- a state of a store -/
structure Sv where
  pl : Pl
  came : List Nat
  held : List Int
structure OkSv (s : Sv) : Prop where
  nd : s.came.Nodup
  lt : ∀ k ∈ s.came, k < (allP s.pl.w 0 s.pl.sts).length
  hl : s.held.length = s.pl.cs.length
  hb : ∀ z ∈ s.held, 0 ≤ z ∧ z < 8
def SN : List Str := ["active", "ranks", "arrived", "held"]
def TM : List Str := ["behind_arrival", "behind_step", "behind_loss"]
/-- the fields of a state -/
structure FldT (fs : List (Str × V)) (v1 v2 v3 v4 : V) : Prop where
  a : fs.lookup ("active" : Str) = some v1
  r : fs.lookup ("ranks" : Str) = some v2
  c : fs.lookup ("arrived" : Str) = some v3
  h : fs.lookup ("held" : Str) = some v4
  no : ∀ m ∈ TM, fs.lookup m = none
theorem fld_T {v1 v2 v3 v4 : V} : FldT (putF "held" v4 (putF "arrived" v3 (putF "ranks" v2 (putF "active" v1 ([] : List (Str × V)))))) v1 v2 v3 v4 := by
  refine ⟨put_no (put_no (put_no put_at)), put_no (put_no put_at), put_no put_at, put_at, ?_⟩
  intro m hm
  simp only [TM, List.mem_cons, List.not_mem_nil, or_false] at hm
  rcases hm with rfl | rfl | rfl <;> (rw [lookup_putF, if_neg (by decide +kernel), lookup_putF, if_neg (by decide +kernel), lookup_putF, if_neg (by decide +kernel), lookup_putF, if_neg (by decide +kernel)]; rfl)
/-- a state as it stands -/
structure StV (S C : Addr) (H : Hp) (v : V) (s : Sv) : Prop where
  ex : ∃ a dx fs pa ra aa ha sl ql el, v = .ref a ∧ H a = some (.ins S dx fs) ∧ FldT fs (.ref pa) (.ref ra) (.ref aa) (.ref ha) ∧ PlanF C H (.ref pa) s.pl sl ql el ∧ H ra = some (.lst (ivs (rkP s.pl))) ∧ H aa = some (.lst (nvs s.came)) ∧ H ha = some (.tup (ivs s.held))
  ok : OkSv s
theorem StV.same {S C : Addr} {H H' : Hp} {v : V} {s : Sv} (h : StV S C H v s) (m : Same H H') : StV S C H' v s := by
  obtain ⟨a, dx, fs, pa, ra, aa, ha, sl, ql, el, e, h1, h2, h3, h4, h5, h6⟩ := h.ex
  exact ⟨⟨a, dx, fs, pa, ra, aa, ha, sl, ql, el, e, m _ _ h1, h2, h3.same m, m _ _ h4, m _ _ h5, m _ _ h6⟩, h.ok⟩
theorem step_hl {R : Addr} {L : List Addr} {H : Hp} (k : Lok R L H) {v : V} {st : Stp} (h : StepV H v st) : StepV (hl L H) v st := by
  cases st with
  | none => exact h
  | some fw =>
    obtain ⟨f, ws⟩ := fw
    obtain ⟨a, b, e, h1, h2⟩ := h
    exact ⟨a, b, e, (hl_at (k.tup h1)).trans h1, (hl_at (k.tup h2)).trans h2⟩
theorem piece_hl {R : Addr} {L : List Addr} {H : Hp} (k : Lok R L H) {v : V} {p : Int × (Int × List Int)} (h : PieceA H v p) : PieceA (hl L H) v p := by
  obtain ⟨a, b, e, h1, h2⟩ := h
  exact ⟨a, b, e, (hl_at (k.tup h1)).trans h1, (hl_at (k.tup h2)).trans h2⟩
theorem plan_hl {R C : Addr} {L : List Addr} {H : Hp} (k : Lok R L H) (ne : C ≠ R) {x : V} {pl : Pl} {sl ql el : Addr} (h : PlanF C H x pl sl ql el) (n1 : sl ∉ L) (n2 : ql ∉ L) (n3 : el ∉ L) : PlanF C (hl L H) x pl sl ql el := by
  obtain ⟨a, ca, xs, ys, e, ⟨⟨dx, fs, h1, h2⟩, h3, h4, h5⟩, h6, h7, h8⟩ := h.ex
  exact ⟨⟨a, ca, xs, ys, e, ⟨⟨dx, fs, (hl_at (k.ins h1 ne)).trans h1, h2⟩, (hl_at n1).trans h3, (hl_at n2).trans h4, (hl_at n3).trans h5⟩, (hl_at (k.tup h6)).trans h6, L2.Paired.mapP h7 fun _ _ z => step_hl k z, L2.Paired.mapP h8 fun _ _ z => piece_hl k z⟩, h.ok⟩
def begS (pl : Pl) : Sv := ⟨pl, [], pl.cs⟩
theorem beg_ok {pl : Pl} (o : OkP pl) : OkSv (begS pl) := ⟨List.nodup_nil, fun _ h => (by cases h), rfl, o.cb⟩
def sp_sinit (S : Addr) : Sp := fun vs H Q _ => ∃ (a dx : Addr) (v1 v2 v3 v4 : V), vs = [.ref a, v1, v2, v3, v4] ∧ H a = some (.ins S dx []) ∧ ∀ H' fs, Ko a H H' → H' a = some (.ins S dx fs) → FldT fs v1 v2 v3 v4 → Q .non H'
def sp_begun (S C R : Addr) : Sp := fun vs H Q _ => ∃ (L : List Addr) (x : V) (pl : Pl) (sl ql el : Addr), vs = [x] ∧ Lok R L H ∧ PlanF C (hl L H) x pl sl ql el ∧ ∀ v H', Same H H' → StV S C (hl L H') v (begS pl) → Q v H'
section
variable {P : Program} {w : World} {K : PySem.W.Frag} {mg : Str → Option Value} {base : Heap}
theorem ok_roomE {f : Addr} {fd : FuncData} (F : Fun K "is_room" "is_room" s_is_room f fd) (T : Txt mg) (C : Cst K mg) (c_pieces_of : Cal P w K mg base 2 "_pieces_of" ["width", "steps"] sp_piecesX) : FnOk P w K mg base CX0 3 f fd ["width", "steps"] sp_roomE := by
  obtain ⟨tk1, c_MOST_STEPS⟩ := C.steps
  obtain ⟨tk2, c_MOST_PIECES⟩ := C.pieces
  refine F.ok sc_is_room (fun vs H Q E h => ?_) (fun cdv A outer s H vs Q E hr h => ?_)
  · obtain ⟨_, _, _, _, rfl, _⟩ := h
    rfl
  obtain ⟨wd, a, xs, sts, rfl, ha, hst, w0, xl, ok, k⟩ := h
  refine ⟨_, (pss_one (ps_ret (pe_and (pe_cmpR op_le (pe_callB call_len' (by rfl) T.len (by decide +kernel) (pa_cons (pv 1) pa_nil)) (pe_glob (v := .int 40) rfl c_MOST_STEPS ⟨_, rfl⟩) (nomark _)) (pe_one (pe_cmpR op_le (pe_callB call_len' (by rfl) T.len (by decide +kernel) (pa_cons (pe_cal c_pieces_of hr (pa_cons (pv 0) (pa_cons (pv 1) pa_nil))) pa_nil)) (pe_glob (v := .int 40) rfl c_MOST_PIECES ⟨_, rfl⟩) (nomark _)))))), ?_⟩
  refine ⟨_, rfl, a, xs, rfl, .inl ha, _, _, rfl, rfl, _, rfl, ?_⟩
  have e0 : decide (((xs.length : Nat) : Int) ≤ 40) = decide (xs.length ≤ 40) := by
    by_cases z : xs.length ≤ 40
    · rw [decide_eq_true z, decide_eq_true (by omega)]
    · rw [decide_eq_false z, decide_eq_false (by omega)]
  rw [e0]
  cases e1 : decide (xs.length ≤ 40) with
  | false =>
    refine iteF ?_
    have z := k H (Same.refl H)
    rw [e1] at z
    exact z
  | true =>
    refine iteT ⟨_, rfl, _, rfl, wd, a, xs, sts, rfl, ha, hst, w0, xl, ok, fun l H1 ys s1 hl h1 p1 => ?_⟩
    have l1 : ys.length = (allP wd 0 sts).length := paired_len p1
    refine ⟨l, ys, rfl, .inl h1, _, _, rfl, rfl, ?_⟩
    have z := k H1 s1
    rw [e1, ← l1] at z
    have e2 : decide (((ys.length : Nat) : Int) ≤ 40) = (true && decide (ys.length ≤ 40)) := by
      by_cases z : ys.length ≤ 40
      · rw [decide_eq_true z, decide_eq_true (by omega)]
        rfl
      · rw [decide_eq_false z, decide_eq_false (by omega)]
        rfl
    show Q (V.bl (decide (((ys.length : Nat) : Int) ≤ 40))) H1
    rw [e2]
    exact z
theorem ok_sinit {f S : Addr} {fd : FuncData} (F : Fun K "__init__" "State.__init__" s_State___init f fd) (TS : ObjC K mg "State" S SN) : FnOk P w K mg base CX0 1 f fd ["self", "active", "ranks", "arrived", "held"] (sp_sinit S) := by
  refine F.ok sc_State___init (fun vs H Q E h => ?_) (fun cdv A outer s H vs Q E hr h => ?_)
  · obtain ⟨_, _, _, _, _, _, rfl, _⟩ := h
    rfl
  obtain ⟨a, dx, v1, v2, v3, v4, rfl, ha, k⟩ := h
  refine ⟨_, (pss_cons (ps_fld (pv 0) (pv 1) rfl)
    (pss_cons (ps_fld (pv 0) (pv 2) rfl)
    (pss_cons (ps_fld (pv 0) (pv 3) rfl)
    (pss_one (ps_fld (pv 0) (pv 4) rfl))))), ?_⟩
  have n : ∀ x ∈ SN, NoAttr K S x := TS.no
  refine ⟨_, rfl, _, rfl, a, S, dx, _, rfl, ha, TS.cl, n _ (by unfold SN; simp), by show 0 < 1000; decide, ?_⟩
  refine ⟨_, rfl, _, rfl, a, S, dx, _, rfl, upd_same, TS.cl, n _ (by unfold SN; simp), Nat.lt_of_le_of_lt (len_put (Nat.le_refl _)) (by decide), ?_⟩
  refine ⟨_, rfl, _, rfl, a, S, dx, _, rfl, upd_same, TS.cl, n _ (by unfold SN; simp), Nat.lt_of_le_of_lt (len_put (len_put (Nat.le_refl _))) (by decide), ?_⟩
  refine ⟨_, rfl, _, rfl, a, S, dx, _, rfl, upd_same, TS.cl, n _ (by unfold SN; simp), Nat.lt_of_le_of_lt (len_put (len_put (len_put (Nat.le_refl _)))) (by decide), ?_⟩
  have k0 : Ko a H H := fun _ _ _ e => e
  exact k _ _ (k0.upd.upd.upd.upd) upd_same fld_T
/-- a state that is made: its parts stand already -/
theorem made_st {S C R dx : Addr} {L : List Addr} {x : Addr} {H G : Hp} {s : Sv} {pa ra aa ha sl ql el : Addr} {Q : VK} {E : XK} (lk : Lok R L H) (ne : S ≠ R) (hx : H x = none) (s0 : Same H G) (gx : G x = some (.ins S dx [])) (pF : PlanF C (hl L H) (.ref pa) s.pl sl ql el)
    (h1 : hl L H ra = some (.lst (ivs (rkP s.pl)))) (h2 : hl L H aa = some (.lst (nvs s.came))) (h3 : hl L H ha = some (.tup (ivs s.held))) (ok : OkSv s) (k : ∀ H', Same H H' → StV S C (hl L H') (.ref x) s → Q .non H') : sp_sinit S [.ref x, .ref pa, .ref ra, .ref aa, .ref ha] G Q E := by
  refine ⟨x, dx, _, _, _, _, rfl, gx, fun H' fs ko hx' fl => ?_⟩
  have s1 : Same H H' := fun b u e => ko b u (ne_of_none e hx) (s0 b u e)
  have sL : Same (hl L H) (hl L H') := hl_same s1
  exact k H' s1 ⟨⟨x, dx, fs, pa, ra, aa, ha, sl, ql, el, rfl, (hl_at (lk.new hx)).trans hx', fl, pF.same sL, sL _ _ h1, sL _ _ h2, sL _ _ h3⟩, ok⟩
theorem s0_made {C : Addr} {G : Hp} {y dy : Addr} (hy : G y = none) (hdy : G dy = none) : Same G (upd (upd G dy (.own y)) y (.ins C dy [])) := fun b o e => by
  rw [upd_ne (ne_of_none e hy), upd_ne (ne_of_none e hdy)]
  exact e
theorem ok_begun {f S C R fS : Addr} {fd fdS : FuncData} (F : Fun K "begun" "begun" s_begun f fd) (T : Txt mg) (TC : PlanC K mg C) (TS : ObjC K mg "State" S SN) (ne : S ≠ R) (M_State : Mk K S fS) (G_State : FnOk P w K mg base CX0 1 fS fdS ["self", "active", "ranks", "arrived", "held"] (sp_sinit S)) (b_State : Binds K fdS ["self", "active", "ranks", "arrived", "held"] [])
    (P_base : PropC P w K mg base C "base" (sp_p_base C)) (c_piece_epochs : Cal P w K mg base 4 "piece_epochs" ["plan"] (sp_pe C)) : FnOk P w K mg base CX0 6 f fd ["plan"] (sp_begun S C R) := by
  refine F.ok sc_begun (fun vs H Q E h => ?_) (fun cdv A outer s H vs Q E hr h => ?_)
  · obtain ⟨_, _, _, _, _, _, rfl, _⟩ := h
    rfl
  obtain ⟨L, xv, pl, sl, ql, el, rfl, lk, pF, k⟩ := h
  obtain ⟨a, ca, xs, ys, rfl, pX, hca, hst, hps⟩ := pF.ex
  have pFH := pF.same hl_in
  obtain ⟨⟨dx, fs, hx, _⟩, _⟩ := id pX
  refine ⟨_, (pss_one (ps_ret (pe_make M_State G_State (hr.mono (by decide)) rfl TS.mgC b_State .nil pass0 (pa_cons (pv 0) (pa_cons (pe_cal c_piece_epochs hr (pa_cons (pv 0) pa_nil)) (pa_cons (pe_lst' pa_nil) (pa_cons (pe_propC TC.cl P_base hr (pv 0)) pa_nil))))))), ?_⟩
  refine ⟨_, rfl, _, rfl, _, pl, sl, ql, el, rfl, pFH, fun ra H1 s1 n1 h1 => ⟨szr, fun aa H2 n2 s2 h2 => ?_⟩⟩
  have S2 := s1.trans s2
  refine ⟨_, rfl, a, dx, fs, rfl, S2 _ _ (hl_in _ _ hx), a, ca, sl, ql, el, pl, xs, ys, rfl, (pX.same hl_in).same S2, fun x dy hx' hdy ndy => ?_⟩
  have sm := s0_made (C := S) hx' hdy
  have lk2 := lk.same S2
  have sL := hl_same (L := L) S2
  exact made_st (s := begS pl) lk2 ne hx' sm upd_same (pF.same sL) ((hl_at (lk.new n1)).trans (s2 _ _ h1)) ((hl_at (lk.new (s1.free n2))).trans h2) (sL _ _ hca) (beg_ok pF.ok) fun H' s' st => ⟨rfl, k _ H' (S2.trans s') st⟩
end
end Af

set_option Elab.async false
set_option linter.all false
set_option maxRecDepth 100000
set_option maxHeartbeats 8000000
namespace Af
open PySem L2
abbrev s_State_behind_arrival : Stmt := inClass (top 35) 1
abbrev N_State_behind_arrival : List Str := ["self", "piece", "held"]
theorem sc_State_behind_arrival : FnScope N_State_behind_arrival ["self", "piece"] (defScope s_State_behind_arrival) := ⟨rfl, rfl, rfl, by decide +kernel, rfl, by decide +kernel, by decide +kernel⟩

abbrev s_State_behind_step : Stmt := inClass (top 35) 2
abbrev N_State_behind_step : List Str := ["self", "step", "plan", "steps", "longer"]
theorem sc_State_behind_step : FnScope N_State_behind_step ["self", "step"] (defScope s_State_behind_step) := ⟨rfl, rfl, rfl, by decide +kernel, rfl, by decide +kernel, by decide +kernel⟩

abbrev s_State_behind_loss : Stmt := inClass (top 35) 3
abbrev N_State_behind_loss : List Str := ["self"]
theorem sc_State_behind_loss : FnScope N_State_behind_loss ["self"] (defScope s_State_behind_loss) := ⟨rfl, rfl, rfl, by decide +kernel, rfl, by decide +kernel, by decide +kernel⟩

theorem spl_mem {w : Int} : ∀ (r acc : List Int) (st pos : Int) (p : Int × List Int), p ∈ spl w st acc pos r → ∀ z ∈ p.2, z ∈ acc ∨ z ∈ r
  | [], acc, st, pos, p, m => by
    have e : p = (st, acc) := List.mem_singleton.mp m
    subst e
    exact fun z hz => .inl hz
  | x :: r, acc, st, pos, p, m => by
    by_cases c : acc ≠ [] ∧ pos % w = 0
    · rw [spl_cut c] at m
      rcases List.mem_cons.mp m with rfl | m
      · exact fun z hz => .inl hz
      · intro z hz
        rcases spl_mem r [x] pos (pos + 1) p m z hz with h | h
        · exact .inr (by rw [List.mem_singleton.mp h]; exact List.mem_cons_self)
        · exact .inr (List.mem_cons_of_mem _ h)
    · rw [spl_go c] at m
      intro z hz
      rcases spl_mem r (acc ++ [x]) st (pos + 1) p m z hz with h | h
      · rcases List.mem_append.mp h with h | h
        · exact .inl h
        · exact .inr (by rw [List.mem_singleton.mp h]; exact List.mem_cons_self)
      · exact .inr (List.mem_cons_of_mem _ h)
theorem allP_val {w : Int} {n : Nat} : ∀ {l : List Stp} {i : Nat}, (∀ x ∈ l, OkS n x) → ∀ p ∈ allP w i l, ∀ z ∈ p.2.2, 0 ≤ z ∧ z < 8
  | [], _, _, p, hp => by cases hp
  | a :: l, i, h, p, hp => by
    have hp : p ∈ oneP w i a ++ allP w (i + 1) l := hp
    rcases List.mem_append.mp hp with hp | hp
    · have o := h a List.mem_cons_self
      cases a with
      | none => cases hp
      | some fw =>
        obtain ⟨f, ws⟩ := fw
        obtain ⟨o1, o2, o3, o4⟩ := o
        obtain ⟨q, hq, rfl⟩ := List.mem_map.mp hp
        intro z hz
        rcases spl_mem ws [] f f q hq z hz with h | h
        · cases h
        · exact o4 z h
    · exact allP_val (fun x hx => h x (List.mem_cons_of_mem _ hx)) p hp
theorem behF_val {c : List Int} {p : Int × (Int × List Int)} (hc : ∀ z ∈ c, 0 ≤ z ∧ z < 8) (hp : ∀ z ∈ p.2.2, 0 ≤ z ∧ z < 8) : ∀ z ∈ behF c p, 0 ≤ z ∧ z < 8 := fun z hz => by
  unfold behF at hz
  rcases List.mem_append.mp hz with hz | hz
  · rcases List.mem_append.mp hz with hz | hz
    · exact hc z (List.mem_of_mem_take hz)
    · exact hp z hz
  · exact hc z (List.mem_of_mem_drop hz)
def gI (l : List Int) (i : Nat) : Int := l.getD i 0
theorem atG {l : List Int} {k : Nat} (h : k < l.length) : atI (ivs l) (k : Int) = some (.int (gI l k)) := by
  refine atI_nat (j := k) ?_
  unfold ivs gI
  rw [List.getElem?_map, List.getD_eq_getElem?_getD, List.getElem?_eq_getElem h]
  rfl
def pcs (s : Sv) : List (Int × (Int × List Int)) := allP s.pl.w 0 s.pl.sts
/-- what a call makes of a state, or which error it raises -/
def arrOut (s : Sv) (z : Int) : Sum Sv Nat :=
  if 0 ≤ z ∧ z < ((pcs s).length : Int) then
    if s.came.contains z.toNat = true then .inr 1
    else if gI (rkP s.pl) z.toNat ≠ gI (rkP s.pl) s.came.length then .inr 2
    else .inl ⟨s.pl, s.came ++ [z.toNat], behF s.held (pcAt (pcs s) z.toNat)⟩
  else .inr 0
def stpOut (s : Sv) (st : Stp) : Sum Sv Nat :=
  if (s.pl.sts ++ [st]).length ≤ 40 ∧ (allP s.pl.w 0 (s.pl.sts ++ [st])).length ≤ 40 then .inl ⟨⟨s.pl.cs, s.pl.w, s.pl.sts ++ [st]⟩, s.came, s.held⟩ else .inr 3
def losOut (s : Sv) : Sv := begS ⟨s.held, s.pl.w, []⟩
theorem los_ok {s : Sv} (p : OkP s.pl) (o : OkSv s) : OkP (losOut s).pl := by
  have h := o.hl
  have c1 := p.c1
  have c24 := p.c24
  exact ⟨by show 1 ≤ s.held.length; omega, by show s.held.length ≤ 24; omega, o.hb, p.w1, p.w24, fun x hx => (by cases hx), (by show 0 ≤ 40; decide), (by show 0 ≤ 40; decide)⟩
theorem stp_pl {s : Sv} {st : Stp} (p : OkP s.pl) (g : OkS s.pl.cs.length st) (h : (s.pl.sts ++ [st]).length ≤ 40 ∧ (allP s.pl.w 0 (s.pl.sts ++ [st])).length ≤ 40) : OkP ⟨s.pl.cs, s.pl.w, s.pl.sts ++ [st]⟩ :=
  ⟨p.c1, p.c24, p.cb, p.w1, p.w24, fun x hx => by
    rcases List.mem_append.mp hx with hx | hx
    · exact p.st x hx
    · rw [List.mem_singleton.mp hx]
      exact g, h.1, h.2⟩
theorem stp_ok {s : Sv} {st : Stp} (o : OkSv s) : OkSv ⟨⟨s.pl.cs, s.pl.w, s.pl.sts ++ [st]⟩, s.came, s.held⟩ := ⟨o.nd, fun k hk => by
  have h := o.lt k hk
  show k < (allP s.pl.w 0 (s.pl.sts ++ [st])).length
  rw [allP_snoc, List.length_append]
  omega, o.hl, o.hb⟩
theorem came_lt {s : Sv} (o : OkSv s) {n : Nat} (h1 : n < (pcs s).length) (h2 : n ∉ s.came) : s.came.length < (pcs s).length := by
  have h := nd_len (pcs s).length (n :: s.came) (List.nodup_cons.mpr ⟨h2, o.nd⟩) fun k hk => by
    rcases List.mem_cons.mp hk with rfl | hk
    · exact h1
    · exact o.lt k hk
  rw [List.length_cons] at h
  omega
theorem pc_get {ps : List (Int × (Int × List Int))} {n : Nat} (h : n < ps.length) : pcAt ps n = ps[n] := by
  unfold pcAt
  rw [List.getD_eq_getElem?_getD, List.getElem?_eq_getElem h]
  rfl
theorem arr_ok {s : Sv} (p : OkP s.pl) (o : OkSv s) {n : Nat} (h1 : n < (pcs s).length) (h2 : n ∉ s.came) : OkSv ⟨s.pl, s.came ++ [n], behF s.held (pcAt (pcs s) n)⟩ := by
  have m : pcAt (pcs s) n ∈ pcs s := by rw [pc_get h1]; exact List.getElem_mem h1
  have f := allP_fit (w := s.pl.w) (i := 0) p.st _ m
  have v := allP_val (w := s.pl.w) (i := 0) p.st _ m
  refine ⟨?_, fun k hk => ?_, ?_, behF_val o.hb v⟩
  · rw [List.nodup_append]
    exact ⟨o.nd, by simp, fun a ha b hb e => h2 (by rw [← List.mem_singleton.mp hb, ← e]; exact ha)⟩
  · rcases List.mem_append.mp hk with hk | hk
    · exact o.lt k hk
    · rw [List.mem_singleton.mp hk]
      exact h1
  · show (behF s.held (pcAt (pcs s) n)).length = s.pl.cs.length
    rw [behF_len f.1 (by rw [o.hl]; exact f.2)]
    exact o.hl
def sp_arr (S C R : Addr) (ec : Nat → Addr) : Sp := fun vs H Q E => ∃ (L : List Addr) (x : V) (s : Sv) (z : Int), vs = [x, .int z] ∧ Lok R L H ∧ StV S C (hl L H) x s ∧ (∀ k, arrOut s z = .inr k → ∀ H', Same H H' → E (.ref (ec k)) none H') ∧ (∀ s', arrOut s z = .inl s' → ∀ v H', Same H H' → StV S C (hl L H') v s' → Q v H')
def sp_stp (S C R : Addr) (ec : Nat → Addr) : Sp := fun vs H Q E => ∃ (L : List Addr) (x y : V) (s : Sv) (st : Stp), vs = [x, y] ∧ Lok R L H ∧ StV S C (hl L H) x s ∧ StepV H y st ∧ OkS s.pl.cs.length st ∧ (∀ k, stpOut s st = .inr k → ∀ H', Same H H' → E (.ref (ec k)) none H') ∧ (∀ s', stpOut s st = .inl s' → ∀ v H', Same H H' → StV S C (hl L H') v s' → Q v H')
def sp_los (S C R : Addr) : Sp := fun vs H Q _ => ∃ (L : List Addr) (x : V) (s : Sv), vs = [x] ∧ Lok R L H ∧ StV S C (hl L H) x s ∧ ∀ v H', Same H H' → StV S C (hl L H') v (losOut s) → Q v H'
section
variable {P : Program} {w : World} {K : PySem.W.Frag} {mg : Str → Option Value} {base : Heap}
theorem ok_arr {f S C R fS : Addr} {ec : Nat → Addr} {fd fdS : FuncData} (F : Fun K "behind_arrival" "State.behind_arrival" s_State_behind_arrival f fd) (T : Txt mg) (TC : PlanC K mg C) (TS : ObjC K mg "State" S SN) (ne : S ≠ R) (X0 : ExcC K mg "UnknownPiece" (ec 0)) (X1 : ExcC K mg "Arrived" (ec 1)) (X2 : ExcC K mg "TooEarly" (ec 2))
    (M_State : Mk K S fS) (G_State : FnOk P w K mg base CX0 1 fS fdS ["self", "active", "ranks", "arrived", "held"] (sp_sinit S)) (b_State : Binds K fdS ["self", "active", "ranks", "arrived", "held"] [])
    (P_pieces : PropC P w K mg base C "pieces" (sp_p_pieces C)) (c_is_index : Cal P w K mg base 2 "is_index" ["thing", "many"] (sp_is_index K)) (c_behind_piece : Cal P w K mg base 1 "behind_piece" ["content", "piece"] sp_behind) : FnOk P w K mg base (L2.CX P w) 4 f fd ["self", "piece"] (sp_arr S C R ec) := by
  refine F.okX sc_State_behind_arrival (fun vs H Q E h => ?_) (fun cdv A outer s H vs Q E hr h => ?_)
  · obtain ⟨_, _, _, _, rfl, _⟩ := h
    rfl
  obtain ⟨L, xv, sv, z, rfl, lk, st, kE, kQ⟩ := h
  refine ⟨_, (pss_cons (ps_if (pt_not (pt_val (pe_cal c_is_index hr (pa_cons (pv 1) (pa_cons (pe_callB call_len' (by rfl) T.len (by decide +kernel) (pa_cons (pe_fld (pv 0) rfl) pa_nil)) pa_nil)))))
      (pss_one (ps_raise rfl (takes_of rfl rfl rfl rfl) (pmk_own PySem.F.excBase_ValueError X0.xP X0.gP X0.kP (raises_own X0.bP X0.tP) rfl)))
      pss_nil)
    (pss_cons (ps_if (pt_cmpR (op_inK (K := K) rfl) (pv 1) (pe_fld (pv 0) rfl) (by rfl))
      (pss_one (ps_raise rfl (takes_of rfl rfl rfl rfl) (pmk_own PySem.F.excBase_ValueError X1.xP X1.gP X1.kP (raises_own X1.bP X1.tP) rfl)))
      pss_nil)
    (pss_cons (ps_if (pt_cmpR op_ne (pe_ix ix_seq' (pe_fld (pv 0) rfl) (pv 1) (fun _ _ => rfl)) (pe_ix ix_seq' (pe_fld (pv 0) rfl) (pe_callB call_len' (by rfl) T.len (by decide +kernel) (pa_cons (pe_fld (pv 0) rfl) pa_nil)) (fun _ _ => rfl)) (nomark _))
      (pss_one (ps_raise rfl (takes_of rfl rfl rfl rfl) (pmk_own PySem.F.excBase_ValueError X2.xP X2.gP X2.kP (raises_own X2.bP X2.tP) rfl)))
      pss_nil)
    (pss_cons (ps_set (i := 2) sc_State_behind_arrival.nd rfl (Or.inl rfl) (pe_cal c_behind_piece hr (pa_cons (pe_fld (pv 0) rfl) (pa_cons (pe_ix ix_seq' (pe_propC TC.cl P_pieces hr (pe_fld (pv 0) rfl)) (pv 1) (fun _ _ => rfl)) pa_nil))))
    (pss_one (ps_ret (pe_make M_State G_State (hr.mono (by decide)) rfl TS.mgC b_State .nil pass0 (pa_cons (pe_fld (pv 0) rfl) (pa_cons (pe_fld (pv 0) rfl) (pa_cons (pe_op op_cat' (pe_fld (pv 0) rfl) (pe_lst' (pa_cons (pv 1) pa_nil))) (pa_cons (pv 2) pa_nil))))))))))), ?_⟩
  obtain ⟨a, dx, fs, pa, ra, aa, ha, sl, ql, el, rfl, hx, fl, pF, hra, haa, hha⟩ := st.ex
  have o := st.ok
  have oP := pF.ok
  have nS : ∀ x ∈ SN, NoAttr K S x := TS.no
  have na := nS "active" (by unfold SN; simp)
  have nr := nS "ranks" (by unfold SN; simp)
  have nc := nS "arrived" (by unfold SN; simp)
  have nh := nS "held" (by unfold SN; simp)
  have hxH := hl_in _ _ hx
  have lr : (rkP sv.pl).length = (pcs sv).length := rkP_len sv.pl
  refine ⟨_, rfl, _, rfl, a, S, dx, fs, _, rfl, hxH, TS.cl, nr, fl.r, ra, _, rfl, .inl (hl_in _ _ hra), _, _, "int", rfl, ⟨.int z, by decide, fun _ _ _ e => by cases e⟩, ?_⟩
  refine ⟨_, rfl, ?_⟩
  have ei : idxB ((ivs (rkP sv.pl)).length : Nat) (.int z) = (decide (0 ≤ z) && decide (z < ((pcs sv).length : Int))) := by
    rw [ivs_len, lr]
    rfl
  rw [ei]
  by_cases hz : 0 ≤ z ∧ z < ((pcs sv).length : Int)
  rotate_left
  · have e0 : (decide (0 ≤ z) && decide (z < ((pcs sv).length : Int))) = false := by
      rw [Bool.and_eq_false_iff, decide_eq_false_iff_not, decide_eq_false_iff_not]
      omega
    rw [e0]
    exact kE 0 (if_neg hz) H (Same.refl H)
  rw [decide_eq_true hz.1, decide_eq_true hz.2]
  obtain ⟨n, rfl⟩ := Int.eq_ofNat_of_zero_le hz.1
  have hn : n < (pcs sv).length := by omega
  have en : ((n : Nat) : Int).toNat = n := Int.toNat_natCast n
  refine iteF ⟨_, rfl, _, rfl, a, S, dx, fs, _, rfl, hxH, TS.cl, nc, fl.c, aa, _, rfl, .inl (SqL.of (hl_in _ _ haa)), rfl, flat_ivs _, _, rfl, ?_⟩
  show if inV (.int ((n : Nat) : Int)) (nvs sv.came) = true then _ else _
  rw [in_nvs]
  cases hc : sv.came.contains n with
  | true => exact kE 1 (by unfold arrOut; rw [if_pos hz, en, if_pos hc]) H (Same.refl H)
  | false =>
  have nm : n ∉ sv.came := fun m => by
    have := List.elem_eq_true_of_mem m
    rw [show sv.came.contains n = sv.came.elem n from rfl] at hc
    rw [hc] at this
    cases this
  have cl := came_lt o hn nm
  refine iteF' rfl ?_
  refine ⟨_, rfl, a, S, dx, fs, _, rfl, hxH, TS.cl, nr, fl.r, _, rfl, ra, _, _, _, rfl, rfl, .inl (hl_in _ _ hra), atG (by rw [lr]; exact hn), ?_⟩
  refine ⟨_, rfl, a, S, dx, fs, _, rfl, hxH, TS.cl, nr, fl.r, _, rfl, a, S, dx, fs, _, rfl, hxH, TS.cl, nc, fl.c, aa, _, rfl, .inl (hl_in _ _ haa), ?_⟩
  rw [nvs_len]
  refine ⟨ra, _, _, _, rfl, rfl, .inl (hl_in _ _ hra), atG (by rw [lr]; exact cl), rfl, _, rfl, ite2 (fun q => ?_) (fun q => ?_)⟩
  · have ne' : gI (rkP sv.pl) n ≠ gI (rkP sv.pl) sv.came.length := fun e => by rw [e] at q; simp at q
    exact kE 2 (by unfold arrOut; rw [if_pos hz, en, if_neg (by rw [hc]; decide), if_pos ne']) H (Same.refl H)
  have eq' : gI (rkP sv.pl) n = gI (rkP sv.pl) sv.came.length := by simpa using q
  have out : arrOut sv ((n : Nat) : Int) = .inl ⟨sv.pl, sv.came ++ [n], behF sv.held (pcAt (pcs sv) n)⟩ := by
    unfold arrOut
    rw [if_pos hz, en, if_neg (by rw [hc]; decide), if_neg (fun h => h eq')]
  obtain ⟨pa', ca, xs, ys, epa, pX, hca, hst, hps⟩ := pF.ex
  cases epa
  obtain ⟨⟨dp, fp, hpx, _⟩, _⟩ := id pX
  have yl : ys.length = (pcs sv).length := paired_len hps
  refine ⟨_, rfl, a, S, dx, fs, _, rfl, hxH, TS.cl, nh, fl.h, _, rfl, a, S, dx, fs, _, rfl, hxH, TS.cl, na, fl.a, pa, dp, fp, rfl, hl_in _ _ hpx, pa, ca, sl, ql, el, sv.pl, xs, ys, rfl, pX.same hl_in, fun l1 H1 s1 n1 h1 => ?_⟩
  have yn : n < ys.length := by omega
  obtain ⟨e, he, ep⟩ := paired_get (pieceA_st (Same.trans hl_in s1) hps) (List.getElem?_eq_getElem yn)
  have e1 : pcAt (pcs sv) n = e := by
    rw [pc_get hn]
    have := List.getElem?_eq_getElem hn
    exact Option.some.inj (this.symm.trans he)
  have m : e ∈ pcs sv := List.mem_of_getElem? he
  have ft := allP_fit (w := sv.pl.w) (i := 0) oP.st e m
  have c24 := oP.c24
  have ohl := o.hl
  refine ⟨_, rfl, l1, _, _, _, rfl, rfl, .inl h1, atI_nat (List.getElem?_eq_getElem yn), ha, sv.held, _, e, rfl, s1 _ _ (hl_in _ _ hha), ep, ft.1, by rw [ohl]; exact ft.2, by omega, fun hb H2 s2 h2 => ?_⟩
  have S2 := s1.trans s2
  have sL := hl_same (L := L) S2
  have lk2 := lk.same S2
  refine ⟨_, rfl, a, S, dx, fs, _, rfl, S2 _ _ hxH, TS.cl, na, fl.a, _, rfl, a, S, dx, fs, _, rfl, S2 _ _ hxH, TS.cl, nr, fl.r, _, rfl, a, S, dx, fs, _, rfl, S2 _ _ hxH, TS.cl, nc, fl.c, _, rfl, szr, fun wl H3 n3 s3 h3 => ?_⟩
  have oo := arr_ok oP o hn nm
  have cl40 : sv.came.length < 41 := by have := oP.pc; have : (pcs sv).length ≤ 40 := this; omega
  refine ⟨aa, wl, _, _, rfl, rfl, s3 _ _ (S2 _ _ (hl_in _ _ haa)), h3, sz (by rw [nvs_len]; show _ + 1 ≤ 100000; omega), fun ac H4 n4 s4 h4 => ⟨_, rfl, fun x dy hx' hdy ndy => ?_⟩⟩
  have S4 := S2.trans (s3.trans s4)
  have lk4 := lk.same S4
  have sL4 := hl_same (L := L) S4
  have sm := s0_made (C := S) hx' hdy
  rw [← e1] at h2
  have h4 : H4 ac = some (.lst (nvs (sv.came ++ [n]))) := by
    rw [h4]
    unfold nvs ivs
    rw [List.map_append, List.map_append]
    rfl
  refine made_st (C := C) (s := ⟨sv.pl, sv.came ++ [n], behF sv.held (pcAt (pcs sv) n)⟩) lk4 ne hx' sm upd_same (pF.same sL4) (sL4 _ _ hra) ((hl_at (lk.new ((S2.trans s3).free n4))).trans h4) ((hl_at (lk4.tup (s4 _ _ (s3 _ _ h2)))).trans (s4 _ _ (s3 _ _ h2))) oo fun H' s' st' => ⟨rfl, kQ _ out _ H' (S4.trans s') st'⟩
theorem ok_stp {f S C R fS fI : Addr} {ec : Nat → Addr} {fd fdS fdI : FuncData} (F : Fun K "behind_step" "State.behind_step" s_State_behind_step f fd) (T : Txt mg) (TC : PlanC K mg C) (TS : ObjC K mg "State" S SN) (ne : S ≠ R) (neC : C ≠ R) (X3 : ExcC K mg "TooMany" (ec 3)) {e5 : Addr} (X5 : ExcC K mg "InvalidStep" e5)
    (M_State : Mk K S fS) (G_State : FnOk P w K mg base CX0 1 fS fdS ["self", "active", "ranks", "arrived", "held"] (sp_sinit S)) (b_State : Binds K fdS ["self", "active", "ranks", "arrived", "held"] [])
    (M_Plan : Mk K C fI) (G_Plan : FnOk P w K mg base CX0 6 fI fdI ["self", "base", "width", "steps"] (sp_initX C)) (b_Plan : Binds K fdI ["self", "base", "width", "steps"] [])
    (P_base : PropC P w K mg base C "base" (sp_p_base C)) (P_width : PropC P w K mg base C "width" (sp_p_width C)) (P_steps : PropC P w K mg base C "steps" (sp_p_steps C)) (c_is_step : Cal P w K mg base 4 "is_step" ["cells", "thing"] (sp_is_step K)) (c_is_room : Cal P w K mg base 3 "is_room" ["width", "steps"] sp_roomE)
    (c_piece_epochs : Cal P w K mg base 4 "piece_epochs" ["plan"] (sp_pe C)) : FnOk P w K mg base (L2.CX P w) 8 f fd ["self", "step"] (sp_stp S C R ec) := by
  refine F.okX sc_State_behind_step (fun vs H Q E h => ?_) (fun cdv A outer s H vs Q E hr h => ?_)
  · obtain ⟨_, _, _, _, _, rfl, _⟩ := h
    rfl
  obtain ⟨L, xv, y, sv, sp, rfl, lk, st, hy, oy, kE, kQ⟩ := h
  refine ⟨_, (pss_cons (ps_set (i := 2) sc_State_behind_step.nd rfl (Or.inl rfl) (pe_fld (pv 0) rfl))
    (pss_cons (ps_if (pt_not (pt_val (pe_cal c_is_step hr (pa_cons (pe_callB call_len' (by rfl) T.len (by decide +kernel) (pa_cons (pe_propC TC.cl P_base hr (pv 2)) pa_nil)) (pa_cons (pv 1) pa_nil)))))
      (pss_one (ps_raise rfl (takes_of rfl rfl rfl rfl) (pmk_own PySem.F.excBase_ValueError X5.xP X5.gP X5.kP (raises_own X5.bP X5.tP) rfl)))
      pss_nil)
    (pss_cons (ps_set (i := 3) sc_State_behind_step.nd rfl (Or.inl rfl) (pe_op op_cat' (pe_propC TC.cl P_steps hr (pv 2)) (pe_lst' (pa_cons (pv 1) pa_nil))))
    (pss_cons (ps_if (pt_not (pt_val (pe_cal c_is_room hr (pa_cons (pe_propC TC.cl P_width hr (pv 2)) (pa_cons (pv 3) pa_nil)))))
      (pss_one (ps_raise rfl (takes_of rfl rfl rfl rfl) (pmk_own PySem.F.excBase_ValueError X3.xP X3.gP X3.kP (raises_own X3.bP X3.tP) rfl)))
      pss_nil)
    (pss_cons (ps_set (i := 4) sc_State_behind_step.nd rfl (Or.inl rfl) (pe_make M_Plan G_Plan (hr.mono (by decide)) rfl TC.mgC b_Plan .nil pass0 (pa_cons (pe_propC TC.cl P_base hr (pv 2)) (pa_cons (pe_propC TC.cl P_width hr (pv 2)) (pa_cons (pv 3) pa_nil)))))
    (pss_one (ps_ret (pe_make M_State G_State (hr.mono (by decide)) rfl TS.mgC b_State .nil pass0 (pa_cons (pv 4) (pa_cons (pe_cal c_piece_epochs hr (pa_cons (pv 4) pa_nil)) (pa_cons (pe_fld (pv 0) rfl) (pa_cons (pe_fld (pv 0) rfl) pa_nil)))))))))))), ?_⟩
  obtain ⟨a, dx, fs, pa, ra, aa, ha, sl, ql, el, rfl, hx, fl, pF, hra, haa, hha⟩ := st.ex
  have o := st.ok
  have oP := pF.ok
  have nS : ∀ x ∈ SN, NoAttr K S x := TS.no
  have na := nS "active" (by unfold SN; simp)
  have nc := nS "arrived" (by unfold SN; simp)
  have nh := nS "held" (by unfold SN; simp)
  have hxH := hl_in _ _ hx
  obtain ⟨pa', ca, xs, ys, epa, pX, hca, hst, hps⟩ := pF.ex
  cases epa
  obtain ⟨⟨dp, fp, hpx, _⟩, _⟩ := id pX
  have pXH := pX.same (hl_in (L := L) (H := H))
  have hpH := hl_in _ _ hpx
  have hcH := hl_in _ _ hca
  have hstH := steps_same (hl_in (L := L) (H := H)) hst
  have xl := paired_len hst
  have c24 := oP.c24
  refine ⟨_, rfl, a, S, dx, fs, _, rfl, hxH, TS.cl, na, fl.a, ?_⟩
  refine ⟨_, rfl, pa, dp, fp, rfl, hpH, pa, ca, sl, ql, el, sv.pl, xs, ys, rfl, pXH, ca, _, rfl, .inr hcH, _, rfl, _, y, rfl, th_step hy oy (by omega), fun H1 s1 => ?_⟩
  rw [ivs_len, step_ok hy oy]
  refine ⟨_, rfl, iteF ?_⟩
  refine ⟨_, rfl, pa, dp, fp, rfl, s1 _ _ hpH, pa, ca, sl, ql, el, sv.pl, xs, ys, rfl, pXH.same s1, fun l1 H2 s2 n2 h2 => ⟨_, rfl, szr, fun l2 H3 n3 s3 h3 => ?_⟩⟩
  have osl := oP.sl
  refine ⟨l1, l2, _, _, rfl, rfl, s3 _ _ h2, h3, sz (by show xs.length + 1 ≤ 100000; omega), fun l3 H4 n4 s4 h4 => ?_⟩
  have S4 := s1.trans (s2.trans (s3.trans s4))
  have ps : Paired (StepV H4) (xs ++ [y]) (sv.pl.sts ++ [sp]) := paired_app (steps_same S4 hstH) (steps_same S4 (.cons hy .nil))
  have okA : ∀ x ∈ sv.pl.sts ++ [sp], OkS 24 x := fun x hx => by
    rcases List.mem_append.mp hx with hx | hx
    · exact ok24 (oP.st x hx) c24
    · rw [List.mem_singleton.mp hx]
      exact ok24 oy c24
  have w1 := oP.w1
  refine ⟨_, rfl, pa, dp, fp, rfl, S4 _ _ hpH, pa, ca, sl, ql, el, sv.pl, xs, ys, rfl, pXH.same S4, _, rfl, _, l3, xs ++ [y], sv.pl.sts ++ [sp], rfl, h4, ps, by omega, by rw [List.length_append]; show xs.length + 1 ≤ 100; omega, okA, fun H5 s5 => ?_⟩
  have S5 := S4.trans s5
  have el' : (xs ++ [y]).length = (sv.pl.sts ++ [sp]).length := paired_len ps
  rw [el']
  by_cases rm : (sv.pl.sts ++ [sp]).length ≤ 40 ∧ (allP sv.pl.w 0 (sv.pl.sts ++ [sp])).length ≤ 40
  rotate_left
  · have e0 : (decide ((sv.pl.sts ++ [sp]).length ≤ 40) && decide ((allP sv.pl.w 0 (sv.pl.sts ++ [sp])).length ≤ 40)) = false := by
      rw [Bool.and_eq_false_iff, decide_eq_false_iff_not, decide_eq_false_iff_not]
      exact Classical.not_and_iff_not_or_not.mp rm
    rw [e0]
    exact ⟨_, rfl, kE 3 (if_neg rm) H5 S5⟩
  rw [decide_eq_true rm.1, decide_eq_true rm.2]
  have okL := stp_pl oP oy rm
  refine ⟨_, rfl, iteF ?_⟩
  refine ⟨_, rfl, pa, dp, fp, rfl, S5 _ _ hpH, pa, ca, sl, ql, el, sv.pl, xs, ys, rfl, pXH.same S5, ?_⟩
  refine ⟨_, rfl, pa, dp, fp, rfl, S5 _ _ hpH, pa, ca, sl, ql, el, sv.pl, xs, ys, rfl, pXH.same S5, _, rfl, fun x dy hx' hdy ndy => ?_⟩
  have sm := s0_made (C := C) hx' hdy
  refine made_outW (K := K) (pl := ⟨sv.pl.cs, sv.pl.w, sv.pl.sts ++ [sp]⟩) rfl hx' sm upd_same (sm _ _ (S5 _ _ hcH)) (sm _ _ (s5 _ _ h4)) (steps_same (s5.trans sm) ps) okL fun H6 s6 n6 => ⟨rfl, ?_⟩
  obtain ⟨sl', ql', el', pF', m1, m2, m3⟩ := n6.ex
  have lk5 := lk.same S5
  have lk6 := lk5.same s6
  have pL := plan_hl lk6 neC pF' (lk5.new m1) (lk5.new m2) (lk5.new m3)
  refine ⟨_, rfl, _, rfl, _, _, sl', ql', el', rfl, pF', fun r2 H7 s7 n7 h7 => ?_⟩
  have S7 := S5.trans (s6.trans s7)
  refine ⟨_, rfl, a, S, dx, fs, _, rfl, S7 _ _ hxH, TS.cl, nc, fl.c, _, rfl, a, S, dx, fs, _, rfl, S7 _ _ hxH, TS.cl, nh, fl.h, fun x2 dy2 hx2 hdy2 ndy2 => ?_⟩
  have sm2 := s0_made (C := S) hx2 hdy2
  have lk7 := lk6.same s7
  have sL7 := hl_same (L := L) S7
  have out : stpOut sv sp = .inl ⟨⟨sv.pl.cs, sv.pl.w, sv.pl.sts ++ [sp]⟩, sv.came, sv.held⟩ := if_pos rm
  exact made_st (C := C) (s := ⟨⟨sv.pl.cs, sv.pl.w, sv.pl.sts ++ [sp]⟩, sv.came, sv.held⟩) lk7 ne hx2 sm2 upd_same (pL.same (hl_same s7)) ((hl_at (lk6.new n7)).trans h7) (sL7 _ _ haa) (sL7 _ _ hha) (stp_ok o) fun H' s' st' => ⟨rfl, kQ _ out _ H' (S7.trans s') st'⟩
theorem ok_los {f S C R fI : Addr} {fd fdI : FuncData} (F : Fun K "behind_loss" "State.behind_loss" s_State_behind_loss f fd) (T : Txt mg) (TC : PlanC K mg C) (TS : ObjC K mg "State" S SN) (neC : C ≠ R)
    (M_Plan : Mk K C fI) (G_Plan : FnOk P w K mg base CX0 6 fI fdI ["self", "base", "width", "steps"] (sp_initX C)) (b_Plan : Binds K fdI ["self", "base", "width", "steps"] [])
    (P_width : PropC P w K mg base C "width" (sp_p_width C)) (c_begun : Cal P w K mg base 6 "begun" ["plan"] (sp_begun S C R)) : FnOk P w K mg base CX0 8 f fd ["self"] (sp_los S C R) := by
  refine F.ok sc_State_behind_loss (fun vs H Q E h => ?_) (fun cdv A outer s H vs Q E hr h => ?_)
  · obtain ⟨_, _, _, rfl, _⟩ := h
    rfl
  obtain ⟨L, xv, sv, rfl, lk, st, k⟩ := h
  refine ⟨_, (pss_one (ps_ret (pe_cal c_begun hr (pa_cons (pe_make M_Plan G_Plan (hr.mono (by decide)) rfl TC.mgC b_Plan .nil pass0 (pa_cons (pe_fld (pv 0) rfl) (pa_cons (pe_propC TC.cl P_width hr (pe_fld (pv 0) rfl)) (pa_cons (pe_lst' pa_nil) pa_nil)))) pa_nil)))), ?_⟩
  obtain ⟨a, dx, fs, pa, ra, aa, ha, sl, ql, el, rfl, hx, fl, pF, hra, haa, hha⟩ := st.ex
  have o := st.ok
  have oP := pF.ok
  have nS : ∀ x ∈ SN, NoAttr K S x := TS.no
  have na := nS "active" (by unfold SN; simp)
  have nh := nS "held" (by unfold SN; simp)
  have hxH := hl_in _ _ hx
  obtain ⟨pa', ca, xs, ys, epa, pX, hca, hst, hps⟩ := pF.ex
  cases epa
  obtain ⟨⟨dp, fp, hpx, _⟩, _⟩ := id pX
  have pXH := pX.same (hl_in (L := L) (H := H))
  have hpH := hl_in _ _ hpx
  refine ⟨_, rfl, a, S, dx, fs, _, rfl, hxH, TS.cl, nh, fl.h, ?_⟩
  refine ⟨_, rfl, a, S, dx, fs, _, rfl, hxH, TS.cl, na, fl.a, pa, dp, fp, rfl, hpH, pa, ca, sl, ql, el, sv.pl, xs, ys, rfl, pXH, szr, fun l1 H1 n1 s1 h1 => fun x dy hx' hdy ndy => ?_⟩
  have sm := s0_made (C := C) hx' hdy
  refine made_outW (K := K) (pl := (losOut sv).pl) rfl hx' sm upd_same (sm _ _ (s1 _ _ (hl_in _ _ hha))) (sm _ _ h1) .nil (los_ok oP o) fun H2 s2 n2 => ⟨rfl, ?_⟩
  obtain ⟨sl', ql', el', pF', m1, m2, m3⟩ := n2.ex
  have lk1 := lk.same s1
  have lk2 := lk1.same s2
  have pL := plan_hl lk2 neC pF' (lk1.new m1) (lk1.new m2) (lk1.new m3)
  exact ⟨L, _, _, sl', ql', el', rfl, lk2, pL, fun v H3 s3 st' => k v H3 (s1.trans (s2.trans s3)) st'⟩
end
end Af

set_option Elab.async false
set_option linter.all false
set_option maxRecDepth 100000
namespace Af
open PySem PySem.Spec PyProof.Rows L2
/-! xs.count(True); isinstance of an error that is held, of whatever class -/
def rCntT (K : PySem.W.Frag) : V → List V → Hp → VK → Prop := fun x xs H Q => ∃ (p : Addr) (bs : List Bool), x = .ref p ∧ xs = [.bl true] ∧ SqL K H p (bs.map V.bl) ∧ Q (.int ((bs.count true : Nat) : Int)) H
theorem dp_bools {K : PySem.W.Frag} {H : Hp} : ∀ bs : List Bool, DpAll K H (bs.map V.bl) (bs.map PyData.bool)
  | [] => .nil
  | b :: bs => .cons (.bl b) (dp_bools bs)
theorem lay_bools : ∀ bs : List Bool, PyData.canLayAll0 (bs.map PyData.bool) = true
  | [] => rfl
  | b :: bs => by
    show (PyData.canLay0 (.bool b) && PyData.canLayAll0 (bs.map PyData.bool)) = true
    rw [lay_bools bs]
    rfl
theorem cnt_bools : ∀ bs : List Bool, (bs.map PyData.bool).countP (fun y => PyData.eqv y (.bool true)) = bs.count true
  | [] => rfl
  | b :: bs => by
    rw [List.map_cons, List.countP_cons, cnt_bools bs, List.count_cons]
    cases b <;> rfl
theorem mt_countT {X : Cx} (hu : X.A.units + 1 < cLine) : MtR X "list.count" (rCntT X.K) := by
  intro pins s σ H x xs v us Q I rx rxs h
  obtain ⟨p, bs, rfl, rfl, hs, q⟩ := h
  cases (show v = Value.ref p from rx)
  obtain ⟨u, rfl, ru⟩ := rxs.one
  cases (show u = Value.bool true from ru)
  obtain ⟨its, rv, pl, _⟩ := I.list hs
  obtain ⟨as, rs⟩ := Dp.readsAll I _ _ its (dp_bools bs) rv
  refine PySem.SeqAt.count_list_data (d := .bool true) (vs := its.toArray) pl.isList (by simpa using rs) (Reads.bool true) (PyData.plainAll_of_canLay0 _ (lay_bools bs)) rfl (by show X.A.units + 1 + min _ 0 < cLine; omega) ?_
  refine ⟨.int ((bs.map PyData.bool).countP (fun y => PyData.eqv y (.bool true)) : Nat), H, I.tok _, ⟨_, rfl⟩, ?_⟩
  rw [cnt_bools]
  exact q
def rIsHeldE (K : PySem.W.Frag) : List V → Hp → VK → Prop := fun xs H Q => ∃ D, L2.ExcC K D ∧ rIsHeld K D xs H Q
theorem call_isHeldE {X : Cx} : CallR X (.builtin "isinstance") (rIsHeldE X.K) := by
  intro pins s σ H xs us Q I r h
  obtain ⟨D, C, h⟩ := h
  exact call_isHeld C pins s σ H xs us Q I r h
/-- xs.index(True) of some bools -/
def rIdxT (K : PySem.W.Frag) : V → List V → Hp → VK → Prop := fun x xs H Q => ∃ (p : Addr) (bs : List Bool) (j : Nat), x = .ref p ∧ xs = [.bl true] ∧ SqL K H p (bs.map V.bl) ∧ bs.idxOf true = j ∧ j < bs.length ∧ Q (.int (j : Int)) H
end Af

set_option Elab.async false
set_option linter.all false
set_option maxRecDepth 100000
set_option maxHeartbeats 4000000
namespace Af
open PySem PySem.Spec PyProof.Rows L2
/-! data with dicts within, their keys ints and texts; its repr -/
def keyD : L2.Key → PyData
  | .inl i => .int i
  | .inr x => .str x
mutual
inductive Dx (K : PySem.W.Frag) (H : Hp) : V → PyData → Prop
  | non : Dx K H .non .none
  | bl (b : Bool) : Dx K H (.bl b) (.bool b)
  | int (i : Int) : Dx K H (.int i) (.int i)
  | str (x : Str) : Dx K H (.str x) (.str x)
  | lst {a : Addr} {xs : List V} {ds : List PyData} : H a = some (.lst xs) → DxAll K H xs ds → Dx K H (.ref a) (.list ds)
  | tup {a : Addr} {xs : List V} {ds : List PyData} : H a = some (.tup xs) → DxAll K H xs ds → Dx K H (.ref a) (.tuple ds)
  | dic {a : Addr} {rows : List (L2.Key × V)} {kvs : List (PyData × PyData)} : H a = some (.dK rows) → DxKv K H rows kvs → Dx K H (.ref a) (.dict kvs)
inductive DxAll (K : PySem.W.Frag) (H : Hp) : List V → List PyData → Prop
  | nil : DxAll K H [] []
  | cons {v : V} {vs : List V} {d : PyData} {ds : List PyData} : Dx K H v d → DxAll K H vs ds → DxAll K H (v :: vs) (d :: ds)
inductive DxKv (K : PySem.W.Frag) (H : Hp) : List (L2.Key × V) → List (PyData × PyData) → Prop
  | nil : DxKv K H [] []
  | cons {k : L2.Key} {v : V} {rows : List (L2.Key × V)} {d : PyData} {kvs : List (PyData × PyData)} : Dx K H v d → DxKv K H rows kvs → DxKv K H ((k, v) :: rows) ((keyD k, d) :: kvs)
end
mutual
theorem Dx.of {K : PySem.W.Frag} {H : Hp} : ∀ {v : V} {d : PyData}, Dq K H v d → Dx K H v d
  | _, _, .non => .non
  | _, _, .bl b => .bl b
  | _, _, .int i => .int i
  | _, _, .str x => .str x
  | _, _, .lst e t => .lst e (DxAll.of t)
  | _, _, .tup e t => .tup e (DxAll.of t)
  | _, _, .dic e => .dic e .nil
theorem DxAll.of {K : PySem.W.Frag} {H : Hp} : ∀ {v : List V} {d : List PyData}, DqAll K H v d → DxAll K H v d
  | _, _, .nil => .nil
  | _, _, .cons h t => .cons (Dx.of h) (DxAll.of t)
end
mutual
theorem Dx.same {K : PySem.W.Frag} {H H' : Hp} (s : Same H H') : ∀ {v : V} {d : PyData}, Dx K H v d → Dx K H' v d
  | _, _, .non => .non
  | _, _, .bl b => .bl b
  | _, _, .int i => .int i
  | _, _, .str x => .str x
  | _, _, .lst e t => .lst (s _ _ e) (DxAll.same s t)
  | _, _, .tup e t => .tup (s _ _ e) (DxAll.same s t)
  | _, _, .dic e t => .dic (s _ _ e) (DxKv.same s t)
theorem DxAll.same {K : PySem.W.Frag} {H H' : Hp} (s : Same H H') : ∀ {v : List V} {d : List PyData}, DxAll K H v d → DxAll K H' v d
  | _, _, .nil => .nil
  | _, _, .cons h t => .cons (Dx.same s h) (DxAll.same s t)
theorem DxKv.same {K : PySem.W.Frag} {H H' : Hp} (s : Same H H') : ∀ {v : List (L2.Key × V)} {d : List (PyData × PyData)}, DxKv K H v d → DxKv K H' v d
  | _, _, .nil => .nil
  | _, _, .cons h t => .cons (Dx.same s h) (DxKv.same s t)
end
theorem DxAll.len {K : PySem.W.Frag} {H : Hp} : ∀ {v : List V} {d : List PyData}, DxAll K H v d → v.length = d.length
  | _, _, .nil => rfl
  | _, _, .cons _ t => by rw [List.length_cons, List.length_cons, t.len]
theorem DxKv.len {K : PySem.W.Frag} {H : Hp} : ∀ {v : List (L2.Key × V)} {d : List (PyData × PyData)}, DxKv K H v d → v.length = d.length
  | _, _, .nil => rfl
  | _, _, .cons _ t => by rw [List.length_cons, List.length_cons, t.len]
theorem DxAll.at {K : PySem.W.Frag} {H : Hp} : ∀ {xs : List V} {ds : List PyData}, DxAll K H xs ds → ∀ {i : Nat} {y : V}, xs[i]? = some y → ∃ d, ds[i]? = some d ∧ Dx K H y d
  | _, _, .nil, i, y, h => by simp at h
  | _, _, .cons r t, 0, y, h => by cases h; exact ⟨_, rfl, r⟩
  | _, _, .cons r t, i + 1, y, h => t.at (i := i) h
theorem DxAll.app {K : PySem.W.Frag} {H : Hp} : ∀ {xs ys : List V} {ds es : List PyData}, DxAll K H xs ds → DxAll K H ys es → DxAll K H (xs ++ ys) (ds ++ es)
  | _, _, _, _, .nil, h => h
  | _, _, _, _, .cons r t, h => .cons r (t.app h)
theorem depthKv_key (k : L2.Key) (d : PyData) (r : List (PyData × PyData)) : PyData.depthKv ((keyD k, d) :: r) = max d.depth (PyData.depthKv r) := by
  cases k <;> simp only [PyData.depthKv, keyD, PyData.depth, Nat.zero_max]
theorem kv_le_l {k v : Str} : k.length ≤ (k ++ ": " ++ v).length := by rw [strLen_append, strLen_append]; omega
theorem kv_le_r {k v : Str} : v.length ≤ (k ++ ": " ++ v).length := by rw [strLen_append, strLen_append]; omega
section
variable {X : Cx} {pins : List (Addr × Obj)} {σ : L2.St} {H : Hp} {s : Shared}
theorem flat_sees (I : Inv X pins σ H s) {u : Value} {d : PyData} {as : List Addr} (r : Reads s.heap u d as) (no : d.hasDict = false) (sh : d.showable = true) (sz : d.shown.length ≤ sizeLine) : ∃ as bs, Reads s.heap u d as ∧ ReadAtMost s.heap d.depth bs ∧ ReprK X.prog X.w bs s.heap d.depth u d.shown := by
  obtain ⟨bs, h1, h2⟩ := ReprK.of_reads (prog := X.prog) (w := X.w) (h₀ := s.heap) r sh (fun z => by rw [no] at z; cases z) sz
  exact ⟨_, bs, r, h1, h2⟩
theorem key_sees (I : Inv X pins σ H s) {k : L2.Key} {u : Value} (hk : L2.keyIs k u = true) (sh : (keyD k).showable = true) (sz : (keyD k).shown.length ≤ sizeLine) : ∃ as bs, Reads s.heap u (keyD k) as ∧ ReadAtMost s.heap (keyD k).depth bs ∧ ReprK X.prog X.w bs s.heap (keyD k).depth u (keyD k).shown := by
  rcases L2.keyIs_shape hk with ⟨i, t, rfl, rfl⟩ | ⟨x, t, rfl, rfl⟩
  · exact flat_sees I (Reads.int i t) rfl sh sz
  · exact flat_sees I (Reads.str x t) rfl sh sz
mutual
theorem Dx.sees (I : Inv X pins σ H s) : ∀ (d : PyData) (v : V) (u : Value), Dx X.K H v d → RelV v u → d.showable = true → d.shown.length ≤ sizeLine →
    ∃ as bs, Reads s.heap u d as ∧ ReadAtMost s.heap d.depth bs ∧ ReprK X.prog X.w bs s.heap d.depth u d.shown
  | .none, _, _, h, r, sh, sz => by
    cases h
    cases r
    exact flat_sees I Reads.none rfl sh sz
  | .bool b, _, _, h, r, sh, sz => by
    cases h
    cases r
    exact flat_sees I (Reads.bool b) rfl sh sz
  | .int i, _, _, h, r, sh, sz => by
    cases h
    obtain ⟨t, rfl⟩ := r
    exact flat_sees I (Reads.int i t) rfl sh sz
  | .str x, _, _, h, r, sh, sz => by
    cases h
    obtain ⟨t, rfl⟩ := r
    exact flat_sees I (Reads.str x t) rfl sh sz
  | .list ds, _, _, h, r, sh, sz => by
    cases h with
    | @lst a xs _ hs ha =>
      cases r
      obtain ⟨its, rv, ⟨o, n, ho, hc, _, hd⟩, _⟩ := I.list (SqL.of hs)
      have sz' : (listText (PyData.shownAll ds)).length ≤ sizeLine := by simpa only [PyData.shown] using sz
      obtain ⟨as, bs, hr, hb, hk⟩ := Dx.seesAll I ds _ its ha rv (by simpa [PyData.showable] using sh) fun t ht => Nat.le_trans (listText_mem_le ht) sz'
      have rd : Reads s.heap (.ref a) (.list ds) _ := .list ho hc hd hr
      have new : a ∉ bs := not_mem_of_deeper rd (by simp only [PyData.depth]; omega) hb
      refine ⟨_, a :: bs, rd, ReadAtMost.cons rd (by simp only [PyData.depth]; omega) hb, ?_⟩
      simp only [PyData.depth, PyData.shown]
      cases its with
      | nil =>
        cases hr
        simp only [PyData.shownAll, listText_nil]
        exact ReprK.listEmpty ho hc hd
      | cons x l => exact ReprK.list ho hc hd new (by simpa using hk.length_eq) fun i y e => hk.item i y (by simpa using e)
  | .tuple ds, _, _, h, r, sh, sz => by
    cases h with
    | @tup a xs _ hs ha =>
      cases r
      obtain ⟨its, rv, ⟨o, ho, hc, n, hd⟩, _⟩ := I.tuple (SqT.of hs)
      have sz' : (tupleText (PyData.shownAll ds)).length ≤ sizeLine := by simpa only [PyData.shown] using sz
      obtain ⟨as, bs, hr, hb, hk⟩ := Dx.seesAll I ds _ its ha rv (by simpa [PyData.showable] using sh) fun t ht => Nat.le_trans (tupleText_mem_le ht) sz'
      have rd : Reads s.heap (.ref a) (.tuple ds) _ := .tuple ho hc hd hr
      have new : a ∉ bs := not_mem_of_deeper rd (by simp only [PyData.depth]; omega) hb
      refine ⟨_, a :: bs, rd, ReadAtMost.cons rd (by simp only [PyData.depth]; omega) hb, ?_⟩
      simp only [PyData.depth, PyData.shown]
      exact ReprK.tuple ho hc hd new hk
  | .dict kvs, _, _, h, r, sh, sz => by
    cases h with
    | @dic a rows _ ha hr =>
      cases r
      obtain ⟨_, hne, vs, rv, o, es, ep, h1, h2, h3, _, h4, _⟩ := dk_of I.hok ha
      have sz' : (dictText (PyData.shownKv kvs)).length ≤ sizeLine := by simpa only [PyData.shown] using sz
      obtain ⟨as1, as2, bs, r1, r2, hb, k1, k2⟩ := Dx.seesKv I kvs rows vs es.toList hr rv h4 (by simpa [PyData.showable] using sh) fun t ht => Nat.le_trans (dictText_mem_le ht) sz'
      have rd : Reads s.heap (.ref a) (.dict kvs) _ := .dict h1 h2.1 h3 r1 r2
      have new : a ∉ bs := not_mem_of_deeper rd (by simp only [PyData.depth]; omega) hb
      refine ⟨_, a :: bs, rd, ReadAtMost.cons rd (by simp only [PyData.depth]; omega) hb, ?_⟩
      simp only [PyData.depth, PyData.shown, PyData.shownKv_eq]
      exact ReprK.dict h1 h2.1 h3 hne new (ReprEntriesK.of_two es.toList _ _ k1 k2)
theorem Dx.seesAll (I : Inv X pins σ H s) : ∀ (ds : List PyData) (vs : List V) (us : List Value), DxAll X.K H vs ds → Vals vs us → PyData.showableAll ds = true → (∀ t ∈ PyData.shownAll ds, t.length ≤ sizeLine) →
    ∃ as bs, ReadsAll s.heap us ds as ∧ ReadAtMost s.heap (PyData.depthAll ds) bs ∧ ReprAllK X.prog X.w bs s.heap (PyData.depthAll ds) us (PyData.shownAll ds)
  | [], _, _, h, r, _, _ => by
    cases h
    cases r
    refine ⟨_, [], ReadsAll.nil, ⟨fun b z => (by simp at z), ?_⟩⟩
    simp only [PyData.shownAll]
    exact .nil
  | d :: ds, _, _, h, r, sh, sz => by
    cases h with
    | cons h1 h2 =>
      cases r with
      | cons r1 r2 =>
        have sh' : d.showable = true ∧ PyData.showableAll ds = true := by simpa [PyData.showableAll] using sh
        obtain ⟨a1, b1, q1, m1, k1⟩ := Dx.sees I d _ _ h1 r1 sh'.1 (sz _ (by simp only [PyData.shownAll]; exact List.mem_cons_self))
        obtain ⟨a2, b2, q2, m2, k2⟩ := Dx.seesAll I ds _ _ h2 r2 sh'.2 fun t ht => sz t (by simp only [PyData.shownAll]; exact List.mem_cons_of_mem _ ht)
        refine ⟨_, b1 ++ b2, ReadsAll.cons q1 q2, fun b hb => ?_, ?_⟩
        · simp only [PyData.depthAll]
          rcases List.mem_append.mp hb with hb | hb
          · obtain ⟨d', a', r', y⟩ := m1 b hb
            exact ⟨d', a', r', by omega⟩
          · obtain ⟨d', a', r', y⟩ := m2 b hb
            exact ⟨d', a', r', by omega⟩
        · simp only [PyData.depthAll, PyData.shownAll]
          refine .cons ((k1.more fun b hb => List.mem_append.mpr (.inl hb)).level_le (by omega)) (k2.more_le (fun b hb => List.mem_append.mpr (.inr hb)) (by omega))
theorem Dx.seesKv (I : Inv X pins σ H s) : ∀ (kvs : List (PyData × PyData)) (rows : List (L2.Key × V)) (vs : List (L2.Key × Value)) (es : List DictEntry), DxKv X.K H rows kvs → KV rows vs → Pairs (mixKind X.prog X.w) es vs → PyData.showableKv kvs = true → (∀ t ∈ PyData.shownKv kvs, t.length ≤ sizeLine) →
    ∃ as1 as2 bs, ReadsAll s.heap (es.map (·.key)) (kvs.map (·.1)) as1 ∧ ReadsAll s.heap (es.map (·.val)) (kvs.map (·.2)) as2 ∧ ReadAtMost s.heap (PyData.depthKv kvs) bs ∧
      ReprAllK X.prog X.w bs s.heap (PyData.depthKv kvs) (es.map (·.key)) (PyData.shownAll (kvs.map (·.1))) ∧ ReprAllK X.prog X.w bs s.heap (PyData.depthKv kvs) (es.map (·.val)) (PyData.shownAll (kvs.map (·.2)))
  | [], _, _, _, h, r, p, _, _ => by
    cases h
    cases r
    cases p
    refine ⟨_, _, [], ReadsAll.nil, ReadsAll.nil, fun b z => (by simp at z), ?_, ?_⟩
    · simp only [List.map_nil, PyData.shownAll]
      exact .nil
    · simp only [List.map_nil, PyData.shownAll]
      exact .nil
  | (dk, d) :: kvs, _, _, _, h, r, p, sh, sz => by
    cases h with
    | @cons k v rows _ _ h1 h2 =>
      cases r with
      | @cons _ y _ ys r1 r2 =>
        cases p with
        | @cons e _ es _ p1 p2 p3 =>
          obtain ⟨yk, yv⟩ := y
          obtain ⟨e1, e2⟩ := r1
          have e1' : k = yk := e1
          subst e1'
          have e2' : RelV v e.val := by rw [p2]; exact e2
          have sh' : ((keyD k).showable = true ∧ d.showable = true) ∧ PyData.showableKv kvs = true := by simpa [PyData.showableKv] using sh
          have z0 := sz ((keyD k).shown ++ ": " ++ d.shown) (by simp only [PyData.shownKv]; exact List.mem_cons_self)
          obtain ⟨a0, b0, q0, m0, k0⟩ := key_sees I (k := k) (u := e.key) p1 sh'.1.1 (Nat.le_trans kv_le_l z0)
          obtain ⟨a1, b1, q1, m1, k1⟩ := Dx.sees I d _ _ h1 e2' sh'.1.2 (Nat.le_trans kv_le_r z0)
          obtain ⟨c1, c2, b2, q2, q3, m2, k2, k3⟩ := Dx.seesKv I kvs _ _ _ h2 r2 p3 sh'.2 fun t ht => sz t (by simp only [PyData.shownKv]; exact List.mem_cons_of_mem _ ht)
          refine ⟨_, _, b0 ++ (b1 ++ b2), ReadsAll.cons q0 q2, ReadsAll.cons q1 q3, fun b hb => ?_, ?_, ?_⟩
          · simp only [PyData.depthKv]
            rcases List.mem_append.mp hb with hb | hb
            · obtain ⟨d', a', r', y⟩ := m0 b hb
              exact ⟨d', a', r', by omega⟩
            · rcases List.mem_append.mp hb with hb | hb
              · obtain ⟨d', a', r', y⟩ := m1 b hb
                exact ⟨d', a', r', by omega⟩
              · obtain ⟨d', a', r', y⟩ := m2 b hb
                exact ⟨d', a', r', by omega⟩
          · simp only [PyData.depthKv, List.map_cons, PyData.shownAll]
            exact .cons ((k0.more fun b hb => List.mem_append.mpr (.inl hb)).level_le (by omega)) (k2.more_le (fun b hb => List.mem_append.mpr (.inr (List.mem_append.mpr (.inr hb)))) (by omega))
          · simp only [PyData.depthKv, List.map_cons, PyData.shownAll]
            exact .cons ((k1.more fun b hb => List.mem_append.mpr (.inr (List.mem_append.mpr (.inl hb)))).level_le (by omega)) (k3.more_le (fun b hb => List.mem_append.mpr (.inr (List.mem_append.mpr (.inr hb)))) (by omega))
end
/-- repr of data of any kind, dicts within -/
def rReprX (K : PySem.W.Frag) : List V → Hp → VK → Prop := fun xs H Q => ∃ (x : V) (d : PyData), xs = [x] ∧ Dx K H x d ∧ d.showable = true ∧ d.depth ≤ 60 ∧ d.shown.length ≤ sizeLine ∧ Q (.str d.shown) H
theorem call_reprX (hg : X.A.guards = some []) (hu : X.A.units + 64 < cLine) : CallR X (.builtin "repr") (rReprX X.K) := by
  intro pins s σ H xs us Q I r h
  obtain ⟨x, d, rfl, hd, sh, dp, sz, q⟩ := h
  cases hd with
  | int i => exact call_reprA hg hu pins s σ H _ us Q I r ⟨_, _, rfl, .int i, sh, dp, sz, q⟩
  | non => exact call_reprA hg hu pins s σ H _ us Q I r ⟨_, _, rfl, .non, sh, dp, sz, q⟩
  | bl b => exact call_reprA hg hu pins s σ H _ us Q I r ⟨_, _, rfl, .bl b, sh, dp, sz, q⟩
  | str z => exact call_reprA hg hu pins s σ H _ us Q I r ⟨_, _, rfl, .str z, sh, dp, sz, q⟩
  | @lst a xs ds hs hd =>
    have dp' : PyData.depthAll ds + 1 ≤ 60 := by simpa only [PyData.depth] using dp
    obtain ⟨u, rfl, ru⟩ := vals1 r
    cases (show u = Value.ref a from ru)
    obtain ⟨its, rv, ⟨o, n, ho, hc, _, hdd⟩, _⟩ := I.list (SqL.of hs)
    have sz' : (listText (PyData.shownAll ds)).length ≤ sizeLine := by simpa only [PyData.shown] using sz
    obtain ⟨as, bs, hr, hb, hk⟩ := Dx.seesAll I ds xs its hd rv (by simpa only [PyData.showable] using sh) fun t ht => Nat.le_trans (listText_mem_le ht) sz'
    have rd : Reads s.heap (.ref a) (.list ds) _ := .list ho hc hdd hr
    have new : a ∉ bs := not_mem_of_deeper rd (by simp only [PyData.depth]; omega) hb
    refine call_repr_slot (T := "list") (by omega) ⟨o, ho, hc⟩ PySem.F.slot_list_repr.toG ?_
    cases its with
    | nil =>
      cases hr
      have e0 : (PyData.list []).shown = ("[]" : Str) := by simp only [PyData.shown, PyData.shownAll, listText_nil]
      refine call_list_repr_empty ⟨o, ho, hc⟩ ho hdd ⟨_, _, rfl, .str (PyData.list []).shown, H, ?_, ⟨_, by rw [e0]⟩, q⟩
      exact I.kept (t' := _) fun _ _ y => y
    | cons y l =>
      refine call_list_reprK ho hc hdd new (by simpa using hk.length_eq) (fun i y e => hk.item i y (by simpa using e)) hg (fun b _ => Clear.nil b) (by show X.A.units + 1 + (PyData.depthAll ds + 1) < cLine; omega) (fun _ _ e => e) (fun h' u tk keep => ?_) sz'
      refine ⟨_, _, rfl, .str (PyData.list ds).shown, H, I.kept keep, ⟨u, ?_⟩, q⟩
      simp only [PyData.shown]
  | @tup a xs ds hs hd =>
    have dp' : PyData.depthAll ds + 1 ≤ 60 := by simpa only [PyData.depth] using dp
    obtain ⟨u, rfl, ru⟩ := vals1 r
    cases (show u = Value.ref a from ru)
    obtain ⟨its, rv, ⟨o, ho, hc, n, hdd⟩, _⟩ := I.tuple (SqT.of hs)
    have sz' : (tupleText (PyData.shownAll ds)).length ≤ sizeLine := by simpa only [PyData.shown] using sz
    obtain ⟨as, bs, hr, hb, hk⟩ := Dx.seesAll I ds xs its hd rv (by simpa only [PyData.showable] using sh) fun t ht => Nat.le_trans (tupleText_mem_le ht) sz'
    have rd : Reads s.heap (.ref a) (.tuple ds) _ := .tuple ho hc hdd hr
    have new : a ∉ bs := not_mem_of_deeper rd (by simp only [PyData.depth]; omega) hb
    refine call_repr_slot (T := "tuple") (by omega) ⟨o, ho, hc⟩ PySem.F.slot_tuple_repr (call_tuple_reprK ho hc hdd new hk hg (fun b _ => Clear.nil b) (by show X.A.units + 1 + (PyData.depthAll ds + 1) < cLine; omega) (fun _ _ e => e) (fun h' u tk keep => ?_) sz')
    refine ⟨_, _, rfl, .str (PyData.tuple ds).shown, H, I.kept keep, ⟨u, ?_⟩, q⟩
    simp only [PyData.shown]
  | @dic a rows kvs hs hd =>
    have dp' : PyData.depthKv kvs + 1 ≤ 60 := by simpa only [PyData.depth] using dp
    obtain ⟨u, rfl, ru⟩ := vals1 r
    cases (show u = Value.ref a from ru)
    obtain ⟨_, hne, vs, rv, o, es, ep, h1, h2, h3, _, h4, _⟩ := dk_of I.hok hs
    have sz' : (dictText (PyData.shownKv kvs)).length ≤ sizeLine := by simpa only [PyData.shown] using sz
    obtain ⟨as1, as2, bs, r1, r2, hb, k1, k2⟩ := Dx.seesKv I kvs rows vs es.toList hd rv h4 (by simpa [PyData.showable] using sh) fun t ht => Nat.le_trans (dictText_mem_le ht) sz'
    have rd : Reads s.heap (.ref a) (.dict kvs) _ := .dict h1 h2.1 h3 r1 r2
    have new : a ∉ bs := not_mem_of_deeper rd (by simp only [PyData.depth]; omega) hb
    have e1 := ReprEntriesK.of_two es.toList _ _ k1 k2
    rw [← PyData.shownKv_eq] at e1
    refine call_repr_slot (T := "dict") (by omega) ⟨o, h1, h2.1⟩ PySem.F.slot_dict_repr (call_dict_reprK h1 h2.1 h3 hne new e1 hg (fun b _ => Clear.nil b) (by show X.A.units + 1 + (PyData.depthKv kvs + 1) < cLine; omega) (fun _ _ e => e) (fun h' u tk keep => ?_) sz')
    refine ⟨_, _, rfl, .str (PyData.dict kvs).shown, H, I.kept keep, ⟨u, ?_⟩, q⟩
    simp only [PyData.shown]
end
end Af

set_option Elab.async false
set_option linter.all false
set_option maxRecDepth 100000
set_option maxHeartbeats 4000000
namespace Af
open PySem PySem.Spec PyProof.Rows L2
theorem _root_.L2.Room.u1 {k : Nat} {A : Around} (r : L2.Room k A) : A.units + 1 < cLine := by have := r.units; omega
/-! patterns: dicts of cells and ascending worths; patterns among data -/
section
variable {K : PySem.W.Frag} {H : Hp}
theorem dx_ty {x : V} {d : PyData} (h : Dx K H x d) : ∃ n, Ty K H x n := by
  cases h with
  | non => exact ⟨_, .non, by decide, fun _ _ _ e => by cases e⟩
  | bl b => exact ⟨_, .bl b, by decide, fun _ _ _ e => by cases e⟩
  | int i => exact ⟨_, .int i, by decide, fun _ _ _ e => by cases e⟩
  | str z => exact ⟨_, .str z, by decide, fun _ _ _ e => by cases e⟩
  | lst e t => exact ⟨_, .lst e, by decide, fun b o u z q => by cases z; rw [e] at q; cases q⟩
  | tup e t => exact ⟨_, .tup e, by decide, fun b o u z q => by cases z; rw [e] at q; cases q⟩
  | dic e t => exact ⟨_, .dK e, by decide, fun b o u z q => by cases z; rw [e] at q; cases q⟩
theorem dx_idx {x : V} {d : PyData} (h : Dx K H x d) (m : Int) : idxB m x = idxD m d := by
  cases h <;> rfl
theorem dx_all {m : Int} : ∀ {xs : List V} {ds : List PyData}, DxAll K H xs ds → xs.all (idxB m) = ds.all (idxD m)
  | _, _, .nil => rfl
  | _, _, .cons r t => by rw [List.all_cons, List.all_cons, dx_idx r, dx_all t]
theorem dx_empty : ∀ {xs : List V} {ds : List PyData}, DxAll K H xs ds → xs.isEmpty = ds.isEmpty
  | _, _, .nil => rfl
  | _, _, .cons _ _ => rfl
theorem dx_worths {x : V} {d : PyData} (h : Dx K H x d) : worthsB H x = worthsD d := by
  cases h with
  | lst e t => simp only [worthsB, e, worthsD]
  | tup e t => simp only [worthsB, e, worthsD]; rw [dx_empty t, dx_all t]
  | dic e t => simp only [worthsB, e, worthsD]
  | _ => rfl
theorem DxAll.mem : ∀ {xs : List V} {ds : List PyData}, DxAll K H xs ds → ∀ {y : V}, y ∈ xs → ∃ d ∈ ds, Dx K H y d
  | _, _, .nil, y, h => by cases h
  | _, _, .cons r t, y, h => by
    rcases List.mem_cons.mp h with rfl | h
    · exact ⟨_, List.mem_cons_self, r⟩
    · obtain ⟨d, h1, h2⟩ := t.mem h
      exact ⟨d, List.mem_cons_of_mem _ h1, h2⟩
/-- lists and tuples at the top are not long -/
def WdD (d : PyData) : Prop := ∀ ds, d = .tuple ds ∨ d = .list ds → ds.length ≤ 1000
theorem dx_th1 {x : V} {d : PyData} (h : Dx K H x d) (w : WdD d) : Th K H 1 x := by
  refine ⟨dx_ty h, fun a xs e z => ?_⟩
  subst e
  cases h with
  | @lst _ ys ds e t =>
    have l := w ds (.inr rfl)
    rcases z with z | z
    · rw [e] at z; cases z
    · rw [e] at z; cases z; exact ⟨by rw [t.len]; omega, fun y hy => by obtain ⟨d, _, q⟩ := t.mem hy; exact dx_ty q⟩
  | @tup _ ys ds e t =>
    have l := w ds (.inl rfl)
    rcases z with z | z
    · rw [e] at z; cases z; exact ⟨by rw [t.len]; omega, fun y hy => by obtain ⟨d, _, q⟩ := t.mem hy; exact dx_ty q⟩
    · rw [e] at z; cases z
  | dic e t => rcases z with z | z <;> (rw [e] at z; cases z)
end
/-! ascending worths -/
def ascB : List Int → Bool
  | a :: b :: r => decide (a < b) && ascB (b :: r)
  | _ => true
def stI (ws : List Int) (i : Nat) : Bool := decide (ws.getD i 0 < ws.getD (i + 1) 0)
theorem asc_range : ∀ ws : List Int, (List.range (ws.length - 1)).all (stI ws) = ascB ws
  | [] => rfl
  | [_] => rfl
  | a :: b :: r => by
    have ih := asc_range (b :: r)
    show (List.range (r.length + 1)).all (stI (a :: b :: r)) = (decide (a < b) && ascB (b :: r))
    rw [← ih, List.range_succ_eq_map, List.all_cons, List.all_map]
    rfl
theorem asc_iff : ∀ {ws : List Int}, ascB ws = true ↔ ws.Pairwise (· < ·)
  | [] => ⟨fun _ => .nil, fun _ => rfl⟩
  | [_] => ⟨fun _ => List.pairwise_singleton _ _, fun _ => rfl⟩
  | a :: b :: r => by
    have ih := asc_iff (ws := b :: r)
    show (decide (a < b) && ascB (b :: r)) = true ↔ _
    rw [Bool.and_eq_true, decide_eq_true_iff, ih]
    constructor
    · rintro ⟨h1, h2⟩
      refine List.pairwise_cons.mpr ⟨fun z hz => ?_, h2⟩
      rcases List.mem_cons.mp hz with rfl | hz
      · exact h1
      · have := (List.pairwise_cons.mp h2).1 z hz
        omega
    · intro h
      obtain ⟨h1, h2⟩ := List.pairwise_cons.mp h
      exact ⟨h1 b List.mem_cons_self, h2⟩
/-! patterns of any data -/
def intD : PyData → Int
  | .int i => i
  | _ => 0
def intsD : PyData → List Int
  | .tuple ds => ds.map intD
  | _ => []
def letD (d : PyData) : Bool := worthsD d && ascB (intsD d)
def patB (n : Int) : PyData → Bool
  | .dict kvs => kvs.all fun p => idxD n p.1 && letD p.2
  | _ => false
/-- a dict whose values are not long -/
def SzP (d : PyData) : Prop := ∀ kvs, d = .dict kvs → kvs.length ≤ 1000 ∧ (kvs.map (·.1)).Nodup ∧ ∀ p ∈ kvs, WdD p.2
section
variable {K : PySem.W.Frag} {H : Hp}
theorem idx_int {m : Int} {x : V} (h : idxB m x = true) : ∃ i, x = .int i ∧ 0 ≤ i ∧ i < m := by
  cases x with
  | int i =>
    have h : (decide (0 ≤ i) && decide (i < m)) = true := h
    rw [Bool.and_eq_true, decide_eq_true_iff, decide_eq_true_iff] at h
    exact ⟨i, rfl, h.1, h.2⟩
  | _ => cases h
theorem dx_int {m : Int} {x : V} {d : PyData} (q : Dx K H x d) (h : idxD m d = true) : x = .int (intD d) ∧ 0 ≤ intD d ∧ intD d < m := by
  rw [← dx_idx q] at h
  obtain ⟨i, rfl, a, b⟩ := idx_int h
  cases q
  exact ⟨rfl, a, b⟩
theorem dx_ints {m : Int} : ∀ {xs : List V} {ds : List PyData}, DxAll K H xs ds → ds.all (idxD m) = true → xs = ivs (ds.map intD) ∧ ∀ z ∈ ds.map intD, 0 ≤ z ∧ z < m
  | _, _, .nil, _ => ⟨rfl, fun z h => by cases h⟩
  | _, _, .cons r t, h => by
    rw [List.all_cons, Bool.and_eq_true] at h
    obtain ⟨e1, e2, e3⟩ := dx_int r h.1
    obtain ⟨a, b⟩ := dx_ints t h.2
    refine ⟨?_, fun z hz => ?_⟩
    · rw [e1, a]
      rfl
    · rcases List.mem_cons.mp hz with rfl | hz
      · exact ⟨e2, e3⟩
      · exact b z hz
/-- worths among data -/
theorem dx_let {x : V} {d : PyData} (q : Dx K H x d) (h : worthsD d = true) : ∃ a, x = .ref a ∧ H a = some (.tup (ivs (intsD d))) ∧ intsD d ≠ [] ∧ ∀ z ∈ intsD d, 0 ≤ z ∧ z < 8 := by
  cases q with
  | @tup a xs ds e t =>
    have h : (!ds.isEmpty && ds.all (idxD 8)) = true := h
    rw [Bool.and_eq_true] at h
    obtain ⟨e1, b⟩ := dx_ints t h.2
    refine ⟨a, rfl, by rw [e, e1]; rfl, fun z => ?_, b⟩
    cases ds with
    | nil => cases h.1
    | cons _ _ => cases z
  | _ => cases h
theorem dx_dict_or {x : V} {d : PyData} (h : Dx K H x d) : (∃ a rows kvs, x = .ref a ∧ H a = some (.dK rows) ∧ d = .dict kvs ∧ DxKv K H rows kvs) ∨ (∃ n, Ty K H x n ∧ isB n "dict" = false ∧ ∀ kvs, d ≠ .dict kvs) := by
  cases h with
  | non => exact .inr ⟨_, ⟨.non, by decide, fun _ _ _ e => by cases e⟩, by decide, fun _ e => by cases e⟩
  | bl b => exact .inr ⟨_, ⟨.bl b, by decide, fun _ _ _ e => by cases e⟩, by decide, fun _ e => by cases e⟩
  | int i => exact .inr ⟨_, ⟨.int i, by decide, fun _ _ _ e => by cases e⟩, by decide, fun _ e => by cases e⟩
  | str z => exact .inr ⟨_, ⟨.str z, by decide, fun _ _ _ e => by cases e⟩, by decide, fun _ e => by cases e⟩
  | lst e t => exact .inr ⟨_, ⟨.lst e, by decide, fun b o u z q => by cases z; rw [e] at q; cases q⟩, by decide, fun _ e => by cases e⟩
  | tup e t => exact .inr ⟨_, ⟨.tup e, by decide, fun b o u z q => by cases z; rw [e] at q; cases q⟩, by decide, fun _ e => by cases e⟩
  | dic e t => exact .inl ⟨_, _, _, rfl, e, rfl, t⟩
theorem ty_d {a : Addr} {rows : List (L2.Key × V)} (h : H a = some (.dK rows)) : Ty K H (.ref a) "dict" := ⟨.dK h, by decide, fun b o u e z => by cases e; rw [h] at z; cases z⟩
theorem isB_dd : isB "dict" "dict" = true := by decide
theorem DxKv.at : ∀ {rows : List (L2.Key × V)} {kvs : List (PyData × PyData)}, DxKv K H rows kvs → ∀ {i : Nat} {k : L2.Key} {v : V}, rows[i]? = some (k, v) → ∃ d, kvs[i]? = some (keyD k, d) ∧ Dx K H v d
  | _, _, .nil, i, k, v, h => by simp at h
  | _, _, .cons r t, 0, k, v, h => by cases h; exact ⟨_, rfl, r⟩
  | _, _, .cons r t, i + 1, k, v, h => t.at (i := i) h
theorem DxKv.keys : ∀ {rows : List (L2.Key × V)} {kvs : List (PyData × PyData)}, DxKv K H rows kvs → kvs.map (·.1) = (rows.map (·.1)).map keyD
  | _, _, .nil => rfl
  | _, _, .cons _ t => by rw [List.map_cons, List.map_cons, List.map_cons, t.keys]
theorem DxKv.nd {rows : List (L2.Key × V)} {kvs : List (PyData × PyData)} (h : DxKv K H rows kvs) (n : (kvs.map (·.1)).Nodup) : (rows.map (·.1)).Nodup := by
  rw [h.keys] at n
  exact (List.pairwise_map.mp n).imp fun {a b} z e => z (by rw [e])
theorem key_idx (k : L2.Key) (m : Int) : idxB m (kV k) = idxD m (keyD k) := by cases k <;> rfl
theorem key_ty (k : L2.Key) : ∃ n, Ty K H (kV k) n := by
  cases k with
  | inl i => exact ⟨_, .int i, by decide, fun _ _ _ e => by cases e⟩
  | inr x => exact ⟨_, .str x, by decide, fun _ _ _ e => by cases e⟩
theorem valV_at : ∀ {rows : List (L2.Key × V)} {i : Nat} {k : L2.Key} {v : V}, (rows.map (·.1)).Nodup → rows[i]? = some (k, v) → valV rows k = some v
  | [], i, k, v, _, h => by simp at h
  | p :: r, 0, k, v, _, h => by
    cases h
    exact valV_pos rfl
  | p :: r, i + 1, k, v, n, h => by
    rw [List.map_cons] at n
    obtain ⟨n1, n2⟩ := List.nodup_cons.mp n
    have hm : k ∈ r.map (·.1) := by
      have := List.mem_of_getElem? (l := r) (i := i) (by simpa using h)
      exact List.mem_map.mpr ⟨_, this, rfl⟩
    rw [valV_neg (fun e => n1 (by rw [e]; exact hm))]
    exact valV_at n2 (by simpa using h)
end
/-! locked while it is walked -/
theorem lock_same {H H' : Hp} {d : Addr} {u : HO} {od : Obj} (h : H d = some u) (s : Same (upd H d (.frz od u)) H') : Same H (upd H' d u) := fun a o e => by
  by_cases c : a = d
  · subst c
    rw [upd_same]
    rw [h] at e
    exact e
  · rw [upd_ne c]
    exact s a o (by rw [upd_ne c]; exact e)
theorem lock_at {H H' : Hp} {d : Addr} {u : HO} {od : Obj} (s : Same (upd H d (.frz od u)) H') : H' d = some (.frz od u) := s _ _ upd_same
theorem lock_get {H : Hp} {d a : Addr} {u o : HO} {od : Obj} (h : H d = some u) (e : H a = some o) (n : o ≠ u) : upd H d (.frz od u) a = some o := by
  rw [upd_ne (fun z => n (by rw [z, h] at e; exact (Option.some.inj e).symm))]
  exact e
/-- the heap without the locked dict -/
theorem lock_hd {H : Hp} {d : Addr} {x : HO} : Same (hd d H) (upd H d x) := fun a o e => by
  by_cases c : a = d
  · rw [c, show hd d H d = none from if_pos rfl] at e
    cases e
  · rw [hd_ne c] at e
    rw [upd_ne c]
    exact e
mutual
theorem Dx.fn {K : PySem.W.Frag} {H : Hp} : ∀ {v : V} {d : PyData}, Dx K H v d → ∀ {d' : PyData}, Dx K H v d' → d = d'
  | _, _, .non, _, h => by cases h; rfl
  | _, _, .bl b, _, h => by cases h; rfl
  | _, _, .int i, _, h => by cases h; rfl
  | _, _, .str x, _, h => by cases h; rfl
  | _, _, .lst e t, _, h => by
    cases h with
    | lst e' t' => rw [e] at e'; cases e'; rw [DxAll.fn t t']
    | tup e' t' => rw [e] at e'; cases e'
    | dic e' t' => rw [e] at e'; cases e'
  | _, _, .tup e t, _, h => by
    cases h with
    | lst e' t' => rw [e] at e'; cases e'
    | tup e' t' => rw [e] at e'; cases e'; rw [DxAll.fn t t']
    | dic e' t' => rw [e] at e'; cases e'
  | _, _, .dic e t, _, h => by
    cases h with
    | lst e' t' => rw [e] at e'; cases e'
    | tup e' t' => rw [e] at e'; cases e'
    | dic e' t' => rw [e] at e'; cases e'; rw [DxKv.fn t t']
theorem DxAll.fn {K : PySem.W.Frag} {H : Hp} : ∀ {v : List V} {d : List PyData}, DxAll K H v d → ∀ {d' : List PyData}, DxAll K H v d' → d = d'
  | _, _, .nil, _, h => by cases h; rfl
  | _, _, .cons r t, _, h => by
    cases h with
    | cons r' t' => rw [Dx.fn r r', DxAll.fn t t']
theorem DxKv.fn {K : PySem.W.Frag} {H : Hp} : ∀ {v : List (L2.Key × V)} {d : List (PyData × PyData)}, DxKv K H v d → ∀ {d' : List (PyData × PyData)}, DxKv K H v d' → d = d'
  | _, _, .nil, _, h => by cases h; rfl
  | _, _, .cons r t, _, h => by
    cases h with
    | cons r' t' => rw [Dx.fn r r', DxKv.fn t t']
end
/-- what is less deep than what stands at a is told without a -/
theorem dp_l {ds : List PyData} : (PyData.list ds).depth = PyData.depthAll ds + 1 := by simp only [PyData.depth]
theorem dp_t {ds : List PyData} : (PyData.tuple ds).depth = PyData.depthAll ds + 1 := by simp only [PyData.depth]
theorem dp_d {kvs : List (PyData × PyData)} : (PyData.dict kvs).depth = PyData.depthKv kvs + 1 := by simp only [PyData.depth]
mutual
theorem Dx.off {K : PySem.W.Frag} {H : Hp} {a : Addr} {D : PyData} (h : Dx K H (.ref a) D) : ∀ {v : V} {d : PyData}, Dx K H v d → d.depth < D.depth → Dx K (hd a H) v d
  | _, _, .non, _ => .non
  | _, _, .bl b, _ => .bl b
  | _, _, .int i, _ => .int i
  | _, _, .str x, _ => .str x
  | _, _, .lst (a := b) e t, l => by
    have ne : b ≠ a := fun z => by
      subst z
      rw [Dx.fn h (.lst e t)] at l
      omega
    exact .lst ((hd_ne ne).trans e) (DxAll.off h t (by rw [dp_l] at l; omega))
  | _, _, .tup (a := b) e t, l => by
    have ne : b ≠ a := fun z => by
      subst z
      rw [Dx.fn h (.tup e t)] at l
      omega
    exact .tup ((hd_ne ne).trans e) (DxAll.off h t (by rw [dp_t] at l; omega))
  | _, _, .dic (a := b) e t, l => by
    have ne : b ≠ a := fun z => by
      subst z
      rw [Dx.fn h (.dic e t)] at l
      omega
    exact .dic ((hd_ne ne).trans e) (DxKv.off h t (by rw [dp_d] at l; omega))
theorem DxAll.off {K : PySem.W.Frag} {H : Hp} {a : Addr} {D : PyData} (h : Dx K H (.ref a) D) : ∀ {v : List V} {d : List PyData}, DxAll K H v d → PyData.depthAll d < D.depth → DxAll K (hd a H) v d
  | _, _, .nil, _ => .nil
  | _, _, .cons r t, l => .cons (Dx.off h r (by simp only [PyData.depthAll] at l; omega)) (DxAll.off h t (by simp only [PyData.depthAll] at l; omega))
theorem DxKv.off {K : PySem.W.Frag} {H : Hp} {a : Addr} {D : PyData} (h : Dx K H (.ref a) D) : ∀ {v : List (L2.Key × V)} {d : List (PyData × PyData)}, DxKv K H v d → PyData.depthKv d < D.depth → DxKv K (hd a H) v d
  | _, _, .nil, _ => .nil
  | _, _, .cons r t, l => .cons (Dx.off h r (by simp only [PyData.depthKv] at l; omega)) (DxKv.off h t (by simp only [PyData.depthKv] at l; omega))
end
/-- the values of a dict, told while it is locked -/
theorem DxKv.lock {K : PySem.W.Frag} {H : Hp} {a : Addr} {rows : List (L2.Key × V)} {kvs : List (PyData × PyData)} {x : HO} (e : H a = some (.dK rows)) (t : DxKv K H rows kvs) : DxKv K (upd H a x) rows kvs :=
  DxKv.same lock_hd (DxKv.off (.dic e t) t (by rw [dp_d]; omega))
/-! patterns that are right -/
abbrev Ptn := List (Nat × List Int)
def RowV (H : Hp) (r : L2.Key × V) (p : Nat × List Int) : Prop := r.1 = .inl ((p.1 : Nat) : Int) ∧ ∃ t, r.2 = .ref t ∧ H t = some (.tup (ivs p.2))
structure PatV (H : Hp) (a : Addr) (ps : Ptn) : Prop where
  ex : ∃ rows, H a = some (.dK rows) ∧ Paired (RowV H) rows ps
theorem rows_kp {p : Addr} {H H' : Hp} {rows : List (L2.Key × V)} {ps : Ptn} (k : Kp p H H') (h : Paired (RowV H) rows ps) : Paired (RowV H') rows ps := L2.Paired.mapP h fun _ _ ⟨e, t, e2, z⟩ => ⟨e, t, e2, k.tup z⟩
theorem rows_same {H H' : Hp} {rows : List (L2.Key × V)} {ps : Ptn} (s : Same H H') (h : Paired (RowV H) rows ps) : Paired (RowV H') rows ps := rows_kp (p := 0) (Kp.same s) h
theorem PatV.kp {p a : Addr} {H H' : Hp} {ps : Ptn} (h : PatV H a ps) (k : Kp p H H') : PatV H' a ps := by
  obtain ⟨rows, h1, h2⟩ := h.ex
  exact ⟨rows, k _ _ (.inr fun l e => by cases e) h1, rows_kp k h2⟩
theorem PatV.same {a : Addr} {H H' : Hp} {ps : Ptn} (h : PatV H a ps) (s : Same H H') : PatV H' a ps := h.kp (p := 0) (Kp.same s)
structure OkPt (n : Nat) (ps : Ptn) : Prop where
  nd : (ps.map (·.1)).Nodup
  kb : ∀ p ∈ ps, p.1 < n
  ne : ∀ p ∈ ps, p.2 ≠ []
  asc : ∀ p ∈ ps, p.2.Pairwise (· < ·)
  rg : ∀ p ∈ ps, ∀ z ∈ p.2, 0 ≤ z ∧ z < 8
def patD (ps : Ptn) : PyData := .dict (ps.map fun p => (.int ((p.1 : Nat) : Int), .tuple (dvs p.2)))
theorem dx_pat {K : PySem.W.Frag} {H : Hp} {a : Addr} {ps : Ptn} (h : PatV H a ps) : Dx K H (.ref a) (patD ps) := by
  obtain ⟨rows, h1, h2⟩ := h.ex
  refine .dic h1 ?_
  clear h1 h
  induction h2 with
  | nil => exact .nil
  | @cons r p rs ps hr t ih =>
    obtain ⟨k, v⟩ := r
    obtain ⟨e1, t, e2, e3⟩ := hr
    have e1' : k = .inl ((p.1 : Nat) : Int) := e1
    have e2' : v = .ref t := e2
    subst e1' e2'
    exact .cons (k := .inl ((p.1 : Nat) : Int)) (Dx.of (.tup e3 (dq_ints p.2))) ih
theorem sub_lenI : ∀ {l1 l2 : List Int}, l1.Nodup → (∀ x ∈ l1, x ∈ l2) → l1.length ≤ l2.length
  | [], _, _, _ => Nat.zero_le _
  | x :: l1, l2, n, s => by
    obtain ⟨n1, n2⟩ := List.nodup_cons.mp n
    have h := sub_lenI (l2 := l2.erase x) n2 fun y hy => (List.mem_erase_of_ne (fun (e : y = x) => n1 (by rw [← e]; exact hy))).mpr (s y (List.mem_cons_of_mem _ hy))
    have hx := s x List.mem_cons_self
    rw [List.length_erase_of_mem hx] at h
    have := List.length_pos_of_mem hx
    rw [List.length_cons]
    omega
theorem asc_len {ws : List Int} (h : ws.Pairwise (· < ·)) (b : ∀ z ∈ ws, 0 ≤ z ∧ z < 8) : ws.length ≤ 8 := by
  have nd : ws.Nodup := h.imp fun {a b} z => by omega
  have : ws.length ≤ ([0, 1, 2, 3, 4, 5, 6, 7] : List Int).length := sub_lenI nd fun z hz => by
    have := b z hz
    simp only [List.mem_cons, List.not_mem_nil, or_false]
    omega
  exact this
theorem pat_sz {n : Nat} {ps : Ptn} (o : OkPt n ps) (hl : ps.length ≤ 1000) : SzP (patD ps) := fun kvs e => by
  cases e
  refine ⟨by rw [List.length_map]; exact hl, ?_, fun p hp => ?_⟩
  · rw [List.map_map]
    exact List.pairwise_map.mpr ((List.pairwise_map.mp o.nd).imp fun {a b} z e => z (by injection e; omega))
  · obtain ⟨q, hq, rfl⟩ := List.mem_map.mp hp
    intro ds e
    have := asc_len (o.asc q hq) (o.rg q hq)
    rcases e with e | e
    · cases e
      unfold dvs
      rw [List.length_map]
      omega
    · cases e
theorem pat_ok {n : Nat} {ps : Ptn} (o : OkPt n ps) : patB n (patD ps) = true := by
  show (ps.map fun p => (PyData.int ((p.1 : Nat) : Int), PyData.tuple (dvs p.2))).all _ = true
  rw [List.all_map, List.all_eq_true]
  intro p hp
  show (idxD n (.int ((p.1 : Nat) : Int)) && letD (.tuple (dvs p.2))) = true
  have kb := o.kb p hp
  have e1 : idxD (n : Int) (.int ((p.1 : Nat) : Int)) = true := by
    show (decide ((0 : Int) ≤ (p.1 : Int)) && decide ((p.1 : Int) < (n : Int))) = true
    rw [decide_eq_true (by omega), decide_eq_true (by omega)]
    rfl
  have rg := o.rg p hp
  have e2 : worthsD (.tuple (dvs p.2)) = true := by
    show (!(dvs p.2).isEmpty && (dvs p.2).all (idxD 8)) = true
    rw [Bool.and_eq_true, List.all_eq_true]
    refine ⟨?_, fun d hd => ?_⟩
    · have := o.ne p hp
      cases q : p.2 with
      | nil => exact absurd q this
      | cons _ _ => rfl
    · obtain ⟨z, hz, rfl⟩ := dvs_mem hd
      have := rg z hz
      show (decide (0 ≤ z) && decide (z < 8)) = true
      rw [decide_eq_true (by omega), decide_eq_true (by omega)]
      rfl
  have e3 : intsD (.tuple (dvs p.2)) = p.2 := by
    show (p.2.map PyData.int).map intD = p.2
    rw [List.map_map]
    exact List.map_id _
  unfold letD
  rw [e1, e2, e3, asc_iff.mpr (o.asc p hp)]
  rfl
/-- a content agrees with a pattern -/
def agB (ps : Ptn) (c : List Int) : Bool := ps.all fun p => p.2.contains (c.getD p.1 0)
/-! the texts of dicts -/
theorem Bd.dic {b n k : Nat} {kvs : List (PyData × PyData)} (h : ∀ p ∈ kvs, flatD p.1 = true ∧ Bd b n p.2) (hl : kvs.length ≤ k) : Bd (k * (b + 49) + 3) (n + 2) (.dict kvs) := by
  have tx : ((PyData.shownKv kvs).map (·.length)).sum ≤ (b + 47) * kvs.length ∧ (PyData.shownKv kvs).length = kvs.length ∧ PyData.showableKv kvs = true ∧ PyData.depthKv kvs ≤ n + 1 := by
    clear hl
    induction kvs with
    | nil => exact ⟨Nat.zero_le _, rfl, rfl, Nat.zero_le _⟩
    | cons p r ih =>
      obtain ⟨k, v⟩ := p
      obtain ⟨i1, i2, i3, i4⟩ := ih fun q hq => h q (List.mem_cons_of_mem _ hq)
      obtain ⟨f, hv⟩ := h (k, v) List.mem_cons_self
      obtain ⟨k1, k2, k3⟩ := flat_len f
      have v1 := hv.tx
      have v3 := hv.dp
      refine ⟨?_, ?_, ?_, ?_⟩
      · simp only [PyData.shownKv, List.map_cons, List.sum_cons, List.length_cons, Nat.mul_succ]
        have e : (k.shown ++ ": " ++ v.shown).length = k.shown.length + 2 + v.shown.length := by
          rw [strLen_append, strLen_append]
          rfl
        rw [e]
        dsimp only at k1 v1
        omega
      · simp only [PyData.shownKv, List.length_cons, i2]
      · simp only [PyData.showableKv, i3, Bool.and_true, Bool.and_eq_true]
        exact ⟨k2, hv.sh⟩
      · simp only [PyData.depthKv]
        dsimp only at v3 k3
        omega
  obtain ⟨t1, t2, t3, t4⟩ := tx
  have e : kvs.length * (b + 49) ≤ k * (b + 49) := Nat.mul_le_mul_right _ hl
  have e2 : kvs.length * (b + 49) = (b + 47) * kvs.length + 2 * kvs.length := by rw [Nat.mul_comm, ← Nat.add_mul]
  refine ⟨?_, ?_, ?_⟩
  · simp only [PyData.shown]
    have := dictText_len_le (PyData.shownKv kvs)
    rw [t2] at this
    omega
  · simp only [PyData.showable]
    exact t3
  · simp only [PyData.depth]
    omega
theorem bd_pat {n : Nat} {ps : Ptn} (o : OkPt n ps) (hn : n ≤ 24) (hl : ps.length ≤ 24) : Bd 31000 4 (patD ps) := by
  refine (Bd.dic (b := 1200) (n := 2) (k := 24) (fun p hp => ?_) (by rw [List.length_map]; exact hl)).mono (by decide) (by decide)
  obtain ⟨q, hq, rfl⟩ := List.mem_map.mp hp
  have kb := o.kb q hq
  exact ⟨flat_place ⟨by omega, by omega⟩, bd_cells (by have := asc_len (o.asc q hq) (o.rg q hq); omega) (o.rg q hq)⟩
theorem all_mapP {α : Type} (f : α → Bool) (l : List α) : (l.map f).all id = l.all f := by simp
theorem ivs_at {c : List Int} {i : Nat} (h : i < c.length) : (ivs c)[i]? = some (.int (c.getD i 0)) := by
  unfold ivs
  rw [List.getElem?_map, List.getElem?_eq_getElem h, List.getD_eq_getElem?_getD, List.getElem?_eq_getElem h]
  rfl
/-- what a pattern's rows hold while it is locked -/
theorem row_facts {H : Hp} {a : Addr} {rows : List (L2.Key × V)} {ps : Ptn} {od : Obj} {n : Nat} (ha : H a = some (.dK rows)) (hp : Paired (RowV H) rows ps) (o : OkPt n ps) : (rows.map (·.1)).Nodup ∧ ∀ (i : Nat) (k : L2.Key) (v : V), rows[i]? = some (k, v) → ∃ (p : Nat × List Int) (t : Addr), ps[i]? = some p ∧ k = .inl ((p.1 : Nat) : Int) ∧ v = .ref t ∧ upd H a (.frz od (.dK rows)) t = some (.tup (ivs p.2)) := by
  refine ⟨?_, fun i k v h => ?_⟩
  · have e : rows.map (·.1) = ps.map fun p => Sum.inl ((p.1 : Nat) : Int) := by
      clear o ha
      induction hp with
      | nil => rfl
      | cons r t ih => rw [List.map_cons, List.map_cons, ih, r.1]
    rw [e]
    exact List.pairwise_map.mpr ((List.pairwise_map.mp o.nd).imp fun {a b} z e => z (by injection e; omega))
  · obtain ⟨p, h1, e1, t, e2, h2⟩ := paired_get hp h
    exact ⟨p, t, h1, e1, e2, lock_get ha h2 (fun z => by cases z)⟩
/-! dicts that are written: their keys -/
theorem putK_keys {rows : List (L2.Key × V)} {ks : List Int} (h : rows.map (·.1) = ks.map Sum.inl) (z : Int) (v : V) : ∃ ks' : List Int, (putK rows (.inl z) v).map (·.1) = ks'.map Sum.inl ∧ (ks.Nodup → ks'.Nodup) ∧ (∀ x, x ∈ ks' ↔ x ∈ ks ∨ x = z) ∧ ks'.length ≤ ks.length + 1 := by
  unfold putK
  by_cases c : (rows.any fun kv => decide (kv.1 = .inl z)) = true
  · rw [if_pos c]
    have hz : z ∈ ks := by
      obtain ⟨p, hp, e⟩ := List.any_eq_true.mp c
      have e' := of_decide_eq_true e
      have m : (Sum.inl z : L2.Key) ∈ rows.map (·.1) := List.mem_map.mpr ⟨p, hp, e'⟩
      rw [h] at m
      obtain ⟨y, hy, e2⟩ := List.mem_map.mp m
      injection e2 with e2
      rw [← e2]
      exact hy
    refine ⟨ks, ?_, id, fun x => ⟨.inl, fun y => ?_⟩, Nat.le_succ _⟩
    · rw [← h, List.map_map]
      refine List.map_congr_left fun p _ => ?_
      show (if p.1 = .inl z then (p.1, v) else p).1 = p.1
      split <;> rfl
    · rcases y with y | rfl
      · exact y
      · exact hz
  · rw [if_neg c]
    have hz : z ∉ ks := fun hz => c (List.any_eq_true.mpr (by
      have m : (Sum.inl z : L2.Key) ∈ rows.map (·.1) := by rw [h]; exact List.mem_map.mpr ⟨z, hz, rfl⟩
      obtain ⟨p, hp, e⟩ := List.mem_map.mp m
      exact ⟨p, hp, decide_eq_true e⟩))
    refine ⟨ks ++ [z], ?_, fun n => ?_, fun x => ?_, by rw [List.length_append]; exact Nat.le_refl _⟩
    · rw [List.map_append, List.map_append, h]
      rfl
    · exact List.nodup_append.mpr ⟨n, by simp, fun x hx y hy e => by rw [List.mem_singleton.mp hy] at e; exact hz (e ▸ hx)⟩
    · rw [List.mem_append, List.mem_singleton]
theorem putK_snoc {rows : List (L2.Key × V)} {k : L2.Key} {v : V} (h : k ∉ rows.map (·.1)) : putK rows k v = rows ++ [(k, v)] := by
  unfold putK
  rw [if_neg]
  intro c
  obtain ⟨p, hp, e⟩ := List.any_eq_true.mp c
  exact h (List.mem_map.mpr ⟨p, hp, of_decide_eq_true e⟩)
/-- a dict of numbers, whatever they hold -/
def KeyV (H : Hp) (a : Addr) (ks : List Int) : Prop := ∃ rows : List (L2.Key × V), H a = some (.dK rows) ∧ rows.map (·.1) = ks.map Sum.inl
theorem KeyV.kp {p a : Addr} {H H' : Hp} {ks : List Int} (h : KeyV H a ks) (k : Kp p H H') : KeyV H' a ks := by
  obtain ⟨rows, h1, h2⟩ := h
  exact ⟨rows, k _ _ (.inr fun l e => by cases e) h1, h2⟩
theorem rows_upd {H : Hp} {a : Addr} {o u : HO} {rows : List (L2.Key × V)} {ps : Ptn} (e : H a = some u) (n : ∀ l, u ≠ .tup l) (h : Paired (RowV H) rows ps) : Paired (RowV (upd H a o)) rows ps := L2.Paired.mapP h fun _ _ ⟨e1, t, e2, z⟩ => ⟨e1, t, e2, by
  rw [upd_ne (fun q => by rw [q, e] at z; exact n _ (Option.some.inj z))]
  exact z⟩
theorem rows_keys {H : Hp} {rows : List (L2.Key × V)} {ps : Ptn} (h : Paired (RowV H) rows ps) : rows.map (·.1) = ps.map fun p => (Sum.inl ((p.1 : Nat) : Int) : L2.Key) := by
  induction h with
  | nil => rfl
  | cons r t ih => rw [List.map_cons, List.map_cons, ih, r.1]
end Af

set_option Elab.async false
set_option linter.all false
set_option maxRecDepth 100000
set_option maxHeartbeats 2000000
namespace Af
open PySem PySem.Spec PyProof.Rows L2
/-! a def that may raise, as others call it; data of any kind, as the program's questions see it -/
structure CalX (P : Program) (w : World) (K : PySem.W.Frag) (mg : Str → Option Value) (base : Heap) (k : Nat) (x : Str) (ps : List Str) (sp : Sp) : Prop where
  ex : ∃ (f : Addr) (fd : FuncData), FnOk P w K mg base (L2.CX P w) k f fd ps sp ∧ mg x = some (.ref f) ∧ PySem.W.keepIn K (.ref f) = true ∧ Binds K fd ps []
section
variable {X : Cx} {k j : Nat} {x : Str} {ps : List Str} {sp : Sp} {e : Expr} {es : List Expr} {t : TA} {p pos : Pos} {E : L2.St → XK}
theorem pe_calX (c : CalX X.prog X.w X.K X.mg X.base k x ps sp) (hr : Room j X.A) (out : ∀ σ, PassesAt (L2.CX X.prog X.w) X σ (E σ)) (ha : PA X (e :: es) t) (hkj : k ≤ j := by decide) (hg : Gl X x := by rfl) (hdb : (x == ("__debug__" : Str)) = false := by decide)
    (he : starEach (e :: es) X.env = (false, eval e X.env) :: starEach es X.env := by rfl) (hpl : (backTo pos (starEach es X.env)).any (·.1) = false := by rfl) :
    PE X (.Call (.Name x p) (e :: es) [] pos) (tCallS sp E t) := by
  obtain ⟨f, fd, G, m, kp, b⟩ := c.ex
  exact pe_callS G (hr.mono hkj) hg m kp b out ha hdb he hpl
/-- where what is raised leaves the def -/
theorem outE {E : XK} (h : Passes (L2.CX X.prog X.w) X E) : ∀ σ, PassesAt (L2.CX X.prog X.w) X σ ((fun _ => E) σ) := fun σ pins H s e s' I c => h pins σ H s e s' I c
def rIsHeldTE (K : PySem.W.Frag) : List V → Hp → VK → Prop := fun xs H Q => ∃ D, L2.ExcC K D ∧ rIsHeldT K D xs H Q
theorem call_isHeldTE : CallR X (.builtin "isinstance") (rIsHeldTE X.K) := by
  intro pins s σ H xs us Q I r h
  obtain ⟨D, C, h⟩ := h
  exact call_isHeldT C pins s σ H xs us Q I r h
end
section
variable {K : PySem.W.Frag} {H : Hp}
theorem worths_ints {m : Int} : ∀ {xs : List V} {ds : List PyData}, DxAll K H xs ds → ds.all (idxD m) = true → ∃ ws, xs = ivs ws ∧ ds = dvs ws ∧ ∀ z ∈ ws, 0 ≤ z ∧ z < m
  | _, _, .nil, _ => ⟨[], rfl, rfl, fun z hz => by cases hz⟩
  | _, _, .cons (d := d) h t, q => by
    rw [List.all_cons, Bool.and_eq_true] at q
    obtain ⟨ws, e1, e2, b⟩ := worths_ints t q.2
    cases h with
    | int i =>
      have q1 : (decide (0 ≤ i) && decide (i < m)) = true := q.1
      rw [Bool.and_eq_true] at q1
      refine ⟨i :: ws, by rw [e1]; rfl, by rw [e2]; rfl, fun z hz => ?_⟩
      rcases List.mem_cons.mp hz with rfl | hz
      · exact ⟨of_decide_eq_true q1.1, of_decide_eq_true q1.2⟩
      · exact b z hz
    | _ => cases q.1
/-- what passes for worths is a tuple of small numbers -/
theorem worths_of {x : V} {d : PyData} (h : Dx K H x d) (q : worthsD d = true) : ∃ a ws, x = .ref a ∧ H a = some (.tup (ivs ws)) ∧ d = .tuple (dvs ws) ∧ 1 ≤ ws.length ∧ ∀ z ∈ ws, 0 ≤ z ∧ z < 8 := by
  cases h with
  | tup e t =>
    have q : (!_ && _) = true := q
    rw [Bool.and_eq_true] at q
    obtain ⟨ws, e1, e2, b⟩ := worths_ints t q.2
    subst e1 e2
    refine ⟨_, ws, rfl, e, rfl, ?_, b⟩
    cases ws with
    | nil => exact absurd q.1 (by simp [dvs])
    | cons z r => exact Nat.succ_le_succ (Nat.zero_le _)
  | _ => cases q
end
end Af

set_option Elab.async false
set_option linter.all false
set_option maxRecDepth 100000
set_option maxHeartbeats 8000000
namespace Af
open PySem L2
abbrev s_ready_behind : Stmt := top 33
abbrev N_ready_behind : List Str := ["epochs", "fall", "piece", "epoch"]
theorem sc_ready_behind : FnScope N_ready_behind ["epochs", "fall"] (defScope s_ready_behind) := ⟨rfl, rfl, rfl, by decide +kernel, rfl, by decide +kernel, by decide +kernel⟩

abbrev s_Store___init : Stmt := inClass (top 37) 0
abbrev N_Store___init : List Str := ["self", "base", "width"]
theorem sc_Store___init : FnScope N_Store___init ["self", "base", "width"] (defScope s_Store___init) := ⟨rfl, rfl, rfl, by decide +kernel, rfl, by decide +kernel, by decide +kernel⟩

abbrev s_Store__go_on : Stmt := inClass (top 37) 1
abbrev N_Store__go_on : List Str := ["self", "state"]
theorem sc_Store__go_on : FnScope N_Store__go_on ["self", "state"] (defScope s_Store__go_on) := ⟨rfl, rfl, rfl, by decide +kernel, rfl, by decide +kernel, by decide +kernel⟩

abbrev s_Store_write : Stmt := inClass (top 37) 2
abbrev N_Store_write : List Str := ["self", "first", "worths"]
theorem sc_Store_write : FnScope N_Store_write ["self", "first", "worths"] (defScope s_Store_write) := ⟨rfl, rfl, rfl, by decide +kernel, rfl, by decide +kernel, by decide +kernel⟩

abbrev s_Store_barrier : Stmt := inClass (top 37) 3
abbrev N_Store_barrier : List Str := ["self"]
theorem sc_Store_barrier : FnScope N_Store_barrier ["self"] (defScope s_Store_barrier) := ⟨rfl, rfl, rfl, by decide +kernel, rfl, by decide +kernel, by decide +kernel⟩

abbrev s_Store_arrive : Stmt := inClass (top 37) 4
abbrev N_Store_arrive : List Str := ["self", "piece"]
theorem sc_Store_arrive : FnScope N_Store_arrive ["self", "piece"] (defScope s_Store_arrive) := ⟨rfl, rfl, rfl, by decide +kernel, rfl, by decide +kernel, by decide +kernel⟩

abbrev s_Store_lose : Stmt := inClass (top 37) 5
abbrev N_Store_lose : List Str := ["self"]
theorem sc_Store_lose : FnScope N_Store_lose ["self"] (defScope s_Store_lose) := ⟨rfl, rfl, rfl, by decide +kernel, rfl, by decide +kernel, by decide +kernel⟩

abbrev s_Store_undo : Stmt := inClass (top 37) 6
abbrev N_Store_undo : List Str := ["self"]
theorem sc_Store_undo : FnScope N_Store_undo ["self"] (defScope s_Store_undo) := ⟨rfl, rfl, rfl, by decide +kernel, rfl, by decide +kernel, by decide +kernel⟩

abbrev s_Store_plan : Stmt := inClass (top 37) 7
abbrev N_Store_plan : List Str := ["self"]
theorem sc_Store_plan : FnScope N_Store_plan ["self"] (defScope s_Store_plan) := ⟨rfl, rfl, rfl, by decide +kernel, rfl, by decide +kernel, by decide +kernel⟩

abbrev s_Store_came : Stmt := inClass (top 37) 8
abbrev N_Store_came : List Str := ["self"]
theorem sc_Store_came : FnScope N_Store_came ["self"] (defScope s_Store_came) := ⟨rfl, rfl, rfl, by decide +kernel, rfl, by decide +kernel, by decide +kernel⟩

abbrev s_Store_content : Stmt := inClass (top 37) 9
abbrev N_Store_content : List Str := ["self"]
theorem sc_Store_content : FnScope N_Store_content ["self"] (defScope s_Store_content) := ⟨rfl, rfl, rfl, by decide +kernel, rfl, by decide +kernel, by decide +kernel⟩

abbrev s_Store_ready : Stmt := inClass (top 37) 10
abbrev N_Store_ready : List Str := ["self"]
theorem sc_Store_ready : FnScope N_Store_ready ["self"] (defScope s_Store_ready) := ⟨rfl, rfl, rfl, by decide +kernel, rfl, by decide +kernel, by decide +kernel⟩

abbrev s_Store___len : Stmt := inClass (top 37) 12
abbrev N_Store___len : List Str := ["self"]
theorem sc_Store___len : FnScope N_Store___len ["self"] (defScope s_Store___len) := ⟨rfl, rfl, rfl, by decide +kernel, rfl, by decide +kernel, by decide +kernel⟩

def RN : List Str := ["_now", "_earlier"]
def RM : List Str := ["_go_on", "write", "barrier", "arrive", "lose", "undo", "copy"]
/-- the fields of a store -/
structure FldR (fs : List (Str × V)) (v : V) (el : Addr) : Prop where
  n : fs.lookup ("_now" : Str) = some v
  e : fs.lookup ("_earlier" : Str) = some (.ref el)
  no : ∀ m ∈ RM, fs.lookup m = none
  l : fs.length = 2
theorem RM_ne : ∀ m ∈ RM, ¬ m = ("_now" : Str) ∧ ¬ m = ("_earlier" : Str) := by decide +kernel
theorem fld_R {v : V} {el : Addr} : FldR (putF "_earlier" (.ref el) (putF "_now" v ([] : List (Str × V)))) v el := by
  refine ⟨put_no put_at, put_at, fun m hm => ?_, ?_⟩
  · obtain ⟨h1, h2⟩ := RM_ne m hm
    rw [lookup_putF, if_neg (fun e => h2 (by first | exact e | exact e.symm)), lookup_putF, if_neg (fun e => h1 (by first | exact e | exact e.symm))]
    rfl
  · rfl
theorem FldR.now {fs : List (Str × V)} {v u : V} {el : Addr} (h : FldR fs v el) : FldR (putF "_now" u fs) u el := by
  refine ⟨put_at, put_no h.e, fun m hm => ?_, (putF_len h.n).trans h.l⟩
  obtain ⟨h1, h2⟩ := RM_ne m hm
  rw [lookup_putF, if_neg (fun e => h1 (by first | exact e | exact e.symm))]
  exact h.no m hm
theorem FldR.ear {fs : List (Str × V)} {v : V} {el e2 : Addr} (h : FldR fs v el) : FldR (putF "_earlier" (.ref e2) fs) v e2 := by
  refine ⟨put_no h.n, put_at, fun m hm => ?_, (putF_len h.e).trans h.l⟩
  obtain ⟨h1, h2⟩ := RM_ne m hm
  rw [lookup_putF, if_neg (fun e => h2 (by first | exact e | exact e.symm))]
  exact h.no m hm
/-- a store as it stands: x itself, el its earlier states -/
structure StoreV (S C R : Addr) (L : List Addr) (H : Hp) (x el : Addr) (s : Sv) (es : List Sv) : Prop where
  ex : ∃ dx fs nv vs, H x = some (.ins R dx fs) ∧ FldR fs nv el ∧ H el = some (.lst vs) ∧ StV S C (hl L H) nv s ∧ Paired (StV S C (hl L H)) vs es
  xm : x ∈ L
  em : el ∈ L
theorem StoreV.fr {S C R : Addr} {L M : List Addr} {H H' : Hp} {x el : Addr} {s : Sv} {es : List Sv} (h : StoreV S C R L H x el s es) (f : Fr M H H') (m : ∀ a ∈ M, a ∈ L) (nx : x ∉ M) (ne : el ∉ M) : StoreV S C R L H' x el s es := by
  obtain ⟨dx, fs, nv, vs, h1, h2, h3, h4, h5⟩ := h.ex
  have sL := f.hl m
  exact ⟨⟨dx, fs, nv, vs, f _ _ nx h1, h2, f _ _ ne h3, h4.same sL, L2.Paired.mapP h5 fun _ _ z => z.same sL⟩, h.xm, h.em⟩
theorem StoreV.same {S C R : Addr} {L : List Addr} {H H' : Hp} {x el : Addr} {s : Sv} {es : List Sv} (h : StoreV S C R L H x el s es) (m : Same H H') : StoreV S C R L H' x el s es := h.fr (M := []) (Fr.of m) (fun _ h => by cases h) (fun h => by cases h) (fun h => by cases h)
theorem StoreV.more {S C R : Addr} {L N : List Addr} {H H' : Hp} {x el : Addr} {s : Sv} {es : List Sv} (h : StoreV S C R L H x el s es) (m : Same H H') (n : ∀ a ∈ N, H a = none) : StoreV S C R (N ++ L) H' x el s es := by
  obtain ⟨dx, fs, nv, vs, h1, h2, h3, h4, h5⟩ := h.ex
  have sL := hl_more (hl_same (L := L) m) n
  exact ⟨⟨dx, fs, nv, vs, m _ _ h1, h2, m _ _ h3, h4.same sL, L2.Paired.mapP h5 fun _ _ z => z.same sL⟩, List.mem_append.mpr (.inr h.xm), List.mem_append.mpr (.inr h.em)⟩
def rdyL (es : List Int) (fs : List Nat) (n : Nat) : List Nat := (List.range n).filter fun k => decide (gI es k = gI es fs.length) && !fs.contains k
def rdyF (es : List Int) (fs : List Nat) : List Nat := if fs.length = es.length then [] else rdyL es fs es.length
def rdy (s : Sv) : List Nat := rdyF (rkP s.pl) s.came
theorem rdy_lt {es : List Int} {fs : List Nat} : ∀ k ∈ rdyF es fs, k < es.length := fun k hk => by
  unfold rdyF at hk
  split at hk
  · cases hk
  · exact List.mem_range.mp (List.mem_filter.mp hk).1
theorem rdyL_len (es : List Int) (fs : List Nat) (n : Nat) : (rdyL es fs n).length ≤ n := by
  have := List.length_filter_le (fun k => decide (gI es k = gI es fs.length) && !fs.contains k) (List.range n)
  rw [List.length_range] at this
  exact this
theorem rdyF_len (es : List Int) (fs : List Nat) : (rdyF es fs).length ≤ es.length := by
  unfold rdyF
  split
  · exact Nat.zero_le _
  · exact rdyL_len _ _ _
theorem rdyL_succ (es : List Int) (fs : List Nat) (n : Nat) : rdyL es fs (n + 1) = rdyL es fs n ++ (if (decide (gI es n = gI es fs.length) && !fs.contains n) = true then [n] else []) := by
  unfold rdyL
  rw [List.range_succ, List.filter_append]
  congr 1
  simp only [List.filter_cons, List.filter_nil]
theorem nvs_app (a b : List Nat) : nvs (a ++ b) = nvs a ++ nvs b := by
  unfold nvs ivs
  rw [List.map_append, List.map_append]
def sp_ready : Sp := fun vs H Q _ => ∃ (e f : Addr) (es : List Int) (fs : List Nat), vs = [.ref e, .ref f] ∧ H e = some (.lst (ivs es)) ∧ H f = some (.lst (nvs fs)) ∧ fs.length ≤ es.length ∧ es.length ≤ 100 ∧ ∀ l H', Same H H' → H l = none → H' l = some (.lst (nvs (rdyF es fs))) → Q (.ref l) H'
def sp_rinit (S C R : Addr) : Sp := fun vs H Q _ => ∃ (L : List Addr) (a dx ca : Addr) (cs : List Int) (wd : Int), vs = [.ref a, .ref ca, .int wd] ∧ H a = some (.ins R dx []) ∧ Lok R L H ∧ a ∉ L ∧ H ca = some (.tup (ivs cs)) ∧ OkP ⟨cs, wd, []⟩ ∧
  ∀ H' el, Ko a H H' → H el = none → Lok R ([a, el] ++ L) H' → StoreV S C R ([a, el] ++ L) H' a el (begS ⟨cs, wd, []⟩) [] → Q .non H'
def sp_go (S C R : Addr) : Sp := fun vs H Q _ => ∃ (L : List Addr) (x el : Addr) (s : Sv) (es : List Sv) (v : V) (s2 : Sv), vs = [.ref x, v] ∧ Lok R L H ∧ StoreV S C R L H x el s es ∧ StV S C (hl L H) v s2 ∧ es.length < 1000 ∧ ∀ H', Fr [x, el] H H' → Lok R L H' → StoreV S C R L H' x el s2 (es ++ [s]) → Q .non H'
def sp_wr (S C R : Addr) (ec : Nat → Addr) : Sp := fun vs H Q E => ∃ (L : List Addr) (x el b : Addr) (s : Sv) (es : List Sv) (f : Int) (ws : List Int), vs = [.ref x, .int f, .ref b] ∧ Lok R L H ∧ StoreV S C R L H x el s es ∧ H b = some (.tup (ivs ws)) ∧ OkS s.pl.cs.length (some (f, ws)) ∧ es.length < 1000 ∧
  (∀ k, stpOut s (some (f, ws)) = .inr k → ∀ H', Same H H' → E (.ref (ec k)) none H') ∧ (∀ s', stpOut s (some (f, ws)) = .inl s' → ∀ H', Fr [x, el] H H' → Lok R L H' → StoreV S C R L H' x el s' (es ++ [s]) → Q .non H')
def sp_bar (S C R : Addr) (ec : Nat → Addr) : Sp := fun vs H Q E => ∃ (L : List Addr) (x el : Addr) (s : Sv) (es : List Sv), vs = [.ref x] ∧ Lok R L H ∧ StoreV S C R L H x el s es ∧ es.length < 1000 ∧
  (∀ k, stpOut s none = .inr k → ∀ H', Same H H' → E (.ref (ec k)) none H') ∧ (∀ s', stpOut s none = .inl s' → ∀ H', Fr [x, el] H H' → Lok R L H' → StoreV S C R L H' x el s' (es ++ [s]) → Q .non H')
def sp_ari (S C R : Addr) (ec : Nat → Addr) : Sp := fun vs H Q E => ∃ (L : List Addr) (x el : Addr) (s : Sv) (es : List Sv) (z : Int), vs = [.ref x, .int z] ∧ Lok R L H ∧ StoreV S C R L H x el s es ∧ es.length < 1000 ∧
  (∀ k, arrOut s z = .inr k → ∀ H', Same H H' → E (.ref (ec k)) none H') ∧ (∀ s', arrOut s z = .inl s' → ∀ H', Fr [x, el] H H' → Lok R L H' → StoreV S C R L H' x el s' (es ++ [s]) → Q .non H')
def sp_lose (S C R : Addr) : Sp := fun vs H Q _ => ∃ (L : List Addr) (x el : Addr) (s : Sv) (es : List Sv), vs = [.ref x] ∧ Lok R L H ∧ StoreV S C R L H x el s es ∧ es.length < 1000 ∧ ∀ H', Fr [x, el] H H' → Lok R L H' → StoreV S C R L H' x el (losOut s) (es ++ [s]) → Q .non H'
def sp_undo (S C R EN : Addr) : Sp := fun vs H Q E => ∃ (L : List Addr) (x el : Addr) (s : Sv), vs = [.ref x] ∧ Lok R L H ∧ ((∃ (s0 : Sv) (es : List Sv), StoreV S C R L H x el s (es ++ [s0]) ∧ ∀ H', Fr [x, el] H H' → Lok R L H' → StoreV S C R L H' x el s0 es → Q .non H') ∨ (StoreV S C R L H x el s [] ∧ ∀ H', Same H H' → E (.ref EN) none H'))
def sp_pplan (S C R : Addr) : Sp := fun vs H Q _ => ∃ (L : List Addr) (x el : Addr) (s : Sv) (es : List Sv), vs = [.ref x] ∧ StoreV S C R L H x el s es ∧ ∀ pa sl ql el', PlanF C (hl L H) (.ref pa) s.pl sl ql el' → Q (.ref pa) H
def sp_pcame (S C R : Addr) : Sp := fun vs H Q _ => ∃ (L : List Addr) (x el : Addr) (s : Sv) (es : List Sv), vs = [.ref x] ∧ StoreV S C R L H x el s es ∧ ∀ l H', Same H H' → H l = none → H' l = some (.lst (nvs s.came)) → Q (.ref l) H'
def sp_pcont (S C R : Addr) : Sp := fun vs H Q _ => ∃ (L : List Addr) (x el : Addr) (s : Sv) (es : List Sv), vs = [.ref x] ∧ StoreV S C R L H x el s es ∧ ∀ ha, hl L H ha = some (.tup (ivs s.held)) → Q (.ref ha) H
def sp_pready (S C R : Addr) : Sp := fun vs H Q _ => ∃ (L : List Addr) (x el : Addr) (s : Sv) (es : List Sv), vs = [.ref x] ∧ StoreV S C R L H x el s es ∧ ∀ l H', Same H H' → H l = none → H' l = some (.lst (nvs (rdy s))) → Q (.ref l) H'
def sp_plen (S C R : Addr) : Sp := fun vs H Q _ => ∃ (L : List Addr) (x el : Addr) (s : Sv) (es : List Sv), vs = [.ref x] ∧ StoreV S C R L H x el s es ∧ Q (.int (es.length : Nat)) H
def sp_copy (S C R : Addr) : Sp := fun vs H Q _ => ∃ (L : List Addr) (x el : Addr) (s : Sv) (es : List Sv), vs = [.ref x] ∧ Lok R L H ∧ StoreV S C R L H x el s es ∧ ∀ y e2 H', Same H H' → H y = none → H e2 = none → Lok R ([y, e2] ++ L) H' → StoreV S C R ([y, e2] ++ L) H' y e2 s es → Q (.ref y) H'
theorem paired_snoc {α β : Type} {F : α → β → Prop} : ∀ {xs : List α} {ys : List β} {y : β}, Paired F xs (ys ++ [y]) → ∃ us u, xs = us ++ [u] ∧ Paired F us ys ∧ F u y
  | _, [], _, .cons h .nil => ⟨[], _, rfl, .nil, h⟩
  | _, z :: ys, _, .cons h t => by
    obtain ⟨us, u, e, h1, h2⟩ := paired_snoc t
    subst e
    exact ⟨_ :: us, u, rfl, .cons h h1, h2⟩
section
variable {P : Program} {w : World} {K : PySem.W.Frag} {mg : Str → Option Value} {base : Heap}
theorem ok_ready {f : Addr} {fd : FuncData} (F : Fun K "ready_behind" "ready_behind" s_ready_behind f fd) (T : Txt mg) : FnOk P w K mg base CX0 1 f fd ["epochs", "fall"] sp_ready := by
  refine F.ok sc_ready_behind (fun vs H Q E h => ?_) (fun cdv A outer s H vs Q E hr h => ?_)
  · obtain ⟨_, _, _, _, rfl, _⟩ := h
    rfl
  obtain ⟨e, f0, es, fs, rfl, he, hf, fl, el, k⟩ := h
  refine ⟨_, (pss_cons (ps_if (pt_cmpR op_eq (pe_callB call_len' (by rfl) T.len (by decide +kernel) (pa_cons (pv 1) pa_nil)) (pe_callB call_len' (by rfl) T.len (by decide +kernel) (pa_cons (pv 0) pa_nil)) (nomark _))
      (pss_one (ps_ret (pe_lst' pa_nil)))
      pss_nil)
    (pss_one (ps_ret (pe_lc (own := [("piece", 2), ("epoch", 3)]) (g := (gTup K 2 (gCons (gName 2) (gCons (gName 3) gNil)))) rfl sc_ready_behind.nd (pi_enum rfl T.enumerate (pa_cons (pv 0) pa_nil)) (blkOk_by (own := [("piece", 2), ("epoch", 3)]) (N := N_ready_behind) (sc := defScope s_ready_behind) (by decide +kernel)) (fun _ _ _ _ _ => pg_tup rfl (pgs_cons (pg_name (i := 2) sc_ready_behind.nd rfl (Or.inl rfl)) (pgs_cons (pg_name (i := 3) sc_ready_behind.nd rfl (Or.inl rfl)) pgs_nil))) (fun _ _ _ _ _ => (pts_one (PW.pt (pw_and (pt_cmpR op_eq (pv 3) (pe_ix ix_seq' (pv 0) (pe_callB call_len' (by rfl) T.len (by decide +kernel) (pa_cons (pv 1) pa_nil)) (fun _ _ => rfl)) (nomark _)) (pw_and1 (pt_cmpR (op_notInK (K := K) rfl) (pv 2) (pv 1) (by rfl))))))) (fun _ _ _ _ _ => (pv 2)))))), ?_⟩
  refine ⟨_, rfl, f0, _, rfl, .inl hf, _, rfl, e, _, rfl, .inl he, rfl, _, rfl, ?_⟩
  rw [nvs_len, ivs_len]
  by_cases c : fs.length = es.length
  · refine iteT' (by simp [c]) ⟨szr, fun l H1 n1 s1 h1 => k l H1 s1 n1 ?_⟩
    unfold rdyF
    rw [if_pos c]
    exact h1
  · refine iteF' (by simp; omega) ?_
    unfold rdyF at k
    rw [if_neg c] at k
    have lt : fs.length < es.length := by omega
    refine ⟨_, rfl, e, ivs es, rfl, SqL.of he, fun D hD => lc_it (walk_enum (K := K) (a := e) (xs := ivs es)) (fun i H' => Same H H' ∧ H' D = some (.lst (nvs (rdyL es fs i)))) ?_ ?_ ?_ ?_⟩
    · exact ⟨same_new hD, upd_same⟩
    · rintro i H' _ ⟨s3, _⟩
      exact SqL.of (s3 _ _ he)
    · rintro i v H3 H4 hi ⟨s3, h3⟩ ⟨T', x', y', rfl, hT, rfl, hx', hy'⟩
      have hx'' := Option.some.inj hx'
      subst hx''
      have il : i < es.length := by rw [ivs_len] at hi; exact hi
      have ey : (ivs es)[i]? = some y' := hy'
      have eg : (ivs es)[i]? = some (.int (gI es i)) := by
        unfold ivs gI
        rw [List.getElem?_map, List.getD_eq_getElem?_getD, List.getElem?_eq_getElem il]
        rfl
      rw [eg] at ey
      cases ey
      have s4 : Same H3 (upd H3 T' (.tup [.int (i : Nat), .int (gI es i)])) := same_new hT
      have S4 := s3.trans s4
      have ul := rdyL_len es fs i
      rw [rdyL_succ]
      refine ⟨T', _, rfl, SqT.of upd_same, rfl, _, _, rfl, _, _, rfl, rfl, rfl, ?_⟩
      refine ⟨_, rfl, _, rfl, _, rfl, f0, _, rfl, .inl (S4 _ _ hf), ?_⟩
      rw [nvs_len]
      refine ⟨e, _, _, _, rfl, rfl, .inl (S4 _ _ he), atG lt, rfl, _, rfl, ?_⟩
      by_cases c1 : gI es i = gI es fs.length
      · refine iteT' (by simp [c1]) ⟨_, rfl, _, rfl, f0, _, rfl, .inl (SqL.of (S4 _ _ hf)), rfl, flat_ivs _, _, rfl, ?_⟩
        show if (!inV (.int ((i : Nat) : Int)) (nvs fs)) = true then _ else _
        rw [in_nvs]
        cases c2 : fs.contains i with
        | true =>
          rw [if_neg (by simp), if_neg (by simp), List.append_nil]
          exact ⟨S4, s4 _ _ h3⟩
        | false =>
          refine ⟨_, rfl, _, s4 _ _ h3, szl (by rw [nvs_len]; omega), same_mut S4 hD, ?_⟩
          rw [upd_same, if_pos (by simp [c1]), nvs_app]
          rfl
      · refine iteF' (by simp [c1]) ?_
        rw [if_neg (by simp [c1]), List.append_nil]
        exact ⟨S4, s4 _ _ h3⟩
    · rintro H3 ⟨s3, h3⟩
      rw [ivs_len] at h3
      exact k D H3 s3 hD h3
theorem ok_go {f S C R : Addr} {fd : FuncData} (F : Fun K "_go_on" "Store._go_on" s_Store__go_on f fd) (T : Txt mg) (TR : ObjC K mg "Store" R RN) : FnOk P w K mg base CX0 1 f fd ["self", "state"] (sp_go S C R) := by
  refine F.ok sc_Store__go_on (fun vs H Q E h => ?_) (fun cdv A outer s H vs Q E hr h => ?_)
  · obtain ⟨_, _, _, _, _, _, _, rfl, _⟩ := h
    rfl
  obtain ⟨L, x, el, sv, es, v, s2, rfl, lk, st, hv, le, k⟩ := h
  refine ⟨_, (pss_cons (ps_expr (pe_bm PySem.F.plainAttrs_list PySem.F.slot_list_append PySem.F.type_list_append mt_append (pe_fld (pv 0) rfl) (pa_cons (pe_fld (pv 0) rfl) pa_nil)))
    (pss_one (ps_fld (pv 0) (pv 1) rfl))), ?_⟩
  obtain ⟨dx, fs, nv, vs, hx, fl, hel, hn, hes⟩ := st.ex
  have nR : ∀ x ∈ RN, NoAttr K R x := TR.no
  have nn := nR "_now" (by unfold RN; simp)
  have ne := nR "_earlier" (by unfold RN; simp)
  have vl := paired_len hes
  have xe : x ≠ el := fun e => by rw [e, hel] at hx; cases hx
  refine ⟨_, rfl, x, R, dx, fs, _, rfl, hx, TR.cl, ne, fl.e, .inl ⟨rfl, _, SqL.of hel⟩, _, rfl, x, R, dx, fs, _, rfl, hx, TR.cl, nn, fl.n, el, vs, _, rfl, rfl, hel, szl (by omega), ?_⟩
  refine ⟨_, rfl, _, rfl, x, R, dx, fs, rfl, by rw [upd_ne xe]; exact hx, TR.cl, nn, by rw [fl.l]; decide, ?_⟩
  have fr : Fr [x, el] H (upd (upd H el (.lst (vs ++ [nv]))) x (.ins R dx (putF "_now" v fs))) := (Fr.refl.upd (by simp)).upd (by simp)
  have sL := fr.hl (L := L) (fun a ha => by
    simp only [List.mem_cons, List.not_mem_nil, or_false] at ha
    rcases ha with rfl | rfl
    · exact st.xm
    · exact st.em)
  refine k _ fr ((lk.upd (.inl ⟨_, rfl⟩)).upd (.inr ⟨_, _, rfl⟩)) ⟨⟨dx, _, v, vs ++ [nv], upd_same, fl.now, ?_, hv.same sL, ?_⟩, st.xm, st.em⟩
  · rw [upd_ne xe.symm, upd_same]
  · exact paired_app (L2.Paired.mapP hes fun _ _ z => z.same sL) (.cons (hn.same sL) .nil)
theorem ok_wr {f S C R fG fM : Addr} {ec : Nat → Addr} {fd fdG fdM : FuncData} (F : Fun K "write" "Store.write" s_Store_write f fd) (T : Txt mg) (TR : ObjC K mg "Store" R RN) (TS : ObjC K mg "State" S SN)
    (M_go : Meth K R "_go_on" fG) (G_go : FnOk P w K mg base CX0 1 fG fdG ["self", "state"] (sp_go S C R)) (b_go : Binds K fdG ["self", "state"] [])
    (M_stp : Meth K S "behind_step" fM) (G_stp : FnOk P w K mg base (L2.CX P w) 8 fM fdM ["self", "step"] (sp_stp S C R ec)) (b_stp : Binds K fdM ["self", "step"] []) : FnOk P w K mg base (L2.CX P w) 10 f fd ["self", "first", "worths"] (sp_wr S C R ec) := by
  refine F.okX sc_Store_write (fun vs H Q E h => ?_) (fun cdv A outer s H vs Q E hr h => ?_)
  · obtain ⟨_, _, _, _, _, _, _, _, rfl, _⟩ := h
    rfl
  obtain ⟨L, x, el, b, sv, es, f0, ws, rfl, lk, st, hb, oy, le, kE, kQ⟩ := h
  refine ⟨_, (pss_one (ps_expr (pe_methX (E := fun _ => E0) (pl := _) (pv 0) TR.cl M_go G_go (hr.mono (by decide)) b_go pass0A (pa_cons (pe_methX (pl := _) (pe_fld (pv 0) rfl) TS.cl M_stp G_stp (hr.mono (by decide)) b_stp (outE (passes_call (takes_of rfl rfl rfl rfl) (fun _ _ _ _ h => h))) (pa_cons (pe_tup' (pa_cons (pv 1) (pa_cons (pv 2) pa_nil))) pa_nil)) pa_nil)))), ?_⟩
  obtain ⟨dx, fs, nv, vs, hx, fl, hel, hn, hes⟩ := st.ex
  obtain ⟨a, dxs, fss, pa, ra, aa, ha, sl, ql, el', ev, hxs, fls, pF, hra, haa, hha⟩ := id hn.ex
  have nR : ∀ x ∈ RN, NoAttr K R x := TR.no
  have nn := nR "_now" (by unfold RN; simp)
  have ne := nR "_earlier" (by unfold RN; simp)
  refine ⟨_, rfl, x, dx, fs, rfl, hx, fl.no _ (by unfold RM; simp), _, rfl, x, R, dx, fs, _, rfl, hx, TR.cl, nn, fl.n, a, dxs, fss, ev, hl_in _ _ hxs, fls.no _ (by unfold TM; simp), _, rfl, _, rfl, szr, fun t H1 n1 s1 h1 => ?_⟩
  have lk1 := lk.same s1
  have sL := hl_same (L := L) s1
  refine ⟨L, nv, .ref t, sv, some (f0, ws), rfl, lk1, hn.same sL, ⟨t, b, rfl, h1, s1 _ _ hb⟩, oy, fun k e H' m => kE k e H' (s1.trans m), fun s' e v H2 s2 st' => ?_⟩
  have S2 := s1.trans s2
  exact ⟨L, x, el, sv, es, v, s', rfl, lk1.same s2, st.same S2, st', le, fun H3 f3 lk3 st3 => kQ s' e H3 ((Fr.of S2).trans f3) lk3 st3⟩
theorem ok_bar {f S C R fG fM : Addr} {ec : Nat → Addr} {fd fdG fdM : FuncData} (F : Fun K "barrier" "Store.barrier" s_Store_barrier f fd) (T : Txt mg) (TR : ObjC K mg "Store" R RN) (TS : ObjC K mg "State" S SN)
    (M_go : Meth K R "_go_on" fG) (G_go : FnOk P w K mg base CX0 1 fG fdG ["self", "state"] (sp_go S C R)) (b_go : Binds K fdG ["self", "state"] [])
    (M_stp : Meth K S "behind_step" fM) (G_stp : FnOk P w K mg base (L2.CX P w) 8 fM fdM ["self", "step"] (sp_stp S C R ec)) (b_stp : Binds K fdM ["self", "step"] []) : FnOk P w K mg base (L2.CX P w) 10 f fd ["self"] (sp_bar S C R ec) := by
  refine F.okX sc_Store_barrier (fun vs H Q E h => ?_) (fun cdv A outer s H vs Q E hr h => ?_)
  · obtain ⟨_, _, _, _, _, rfl, _⟩ := h
    rfl
  obtain ⟨L, x, el, sv, es, rfl, lk, st, le, kE, kQ⟩ := h
  refine ⟨_, (pss_one (ps_expr (pe_methX (E := fun _ => E0) (pl := _) (pv 0) TR.cl M_go G_go (hr.mono (by decide)) b_go pass0A (pa_cons (pe_methX (pl := _) (pe_fld (pv 0) rfl) TS.cl M_stp G_stp (hr.mono (by decide)) b_stp (outE (passes_call (takes_of rfl rfl rfl rfl) (fun _ _ _ _ h => h))) (pa_cons pe_non pa_nil)) pa_nil)))), ?_⟩
  obtain ⟨dx, fs, nv, vs, hx, fl, hel, hn, hes⟩ := st.ex
  obtain ⟨a, dxs, fss, pa, ra, aa, ha, sl, ql, el', ev, hxs, fls, pF, hra, haa, hha⟩ := id hn.ex
  have nR : ∀ x ∈ RN, NoAttr K R x := TR.no
  have nn := nR "_now" (by unfold RN; simp)
  have ne := nR "_earlier" (by unfold RN; simp)
  refine ⟨_, rfl, x, dx, fs, rfl, hx, fl.no _ (by unfold RM; simp), _, rfl, x, R, dx, fs, _, rfl, hx, TR.cl, nn, fl.n, a, dxs, fss, ev, hl_in _ _ hxs, fls.no _ (by unfold TM; simp), ?_⟩
  refine ⟨L, nv, .non, sv, none, rfl, lk, hn, rfl, True.intro, kE, fun s' e v H2 s2 st' => ?_⟩
  exact ⟨L, x, el, sv, es, v, s', rfl, lk.same s2, st.same s2, st', le, fun H3 f3 lk3 st3 => kQ s' e H3 ((Fr.of s2).trans f3) lk3 st3⟩
theorem ok_ari {f S C R fG fM : Addr} {ec : Nat → Addr} {fd fdG fdM : FuncData} (F : Fun K "arrive" "Store.arrive" s_Store_arrive f fd) (T : Txt mg) (TR : ObjC K mg "Store" R RN) (TS : ObjC K mg "State" S SN)
    (M_go : Meth K R "_go_on" fG) (G_go : FnOk P w K mg base CX0 1 fG fdG ["self", "state"] (sp_go S C R)) (b_go : Binds K fdG ["self", "state"] [])
    (M_arr : Meth K S "behind_arrival" fM) (G_arr : FnOk P w K mg base (L2.CX P w) 4 fM fdM ["self", "piece"] (sp_arr S C R ec)) (b_arr : Binds K fdM ["self", "piece"] []) : FnOk P w K mg base (L2.CX P w) 10 f fd ["self", "piece"] (sp_ari S C R ec) := by
  refine F.okX sc_Store_arrive (fun vs H Q E h => ?_) (fun cdv A outer s H vs Q E hr h => ?_)
  · obtain ⟨_, _, _, _, _, _, rfl, _⟩ := h
    rfl
  obtain ⟨L, x, el, sv, es, z, rfl, lk, st, le, kE, kQ⟩ := h
  refine ⟨_, (pss_one (ps_expr (pe_methX (E := fun _ => E0) (pl := _) (pv 0) TR.cl M_go G_go (hr.mono (by decide)) b_go pass0A (pa_cons (pe_methX (pl := _) (pe_fld (pv 0) rfl) TS.cl M_arr G_arr (hr.mono (by decide)) b_arr (outE (passes_call (takes_of rfl rfl rfl rfl) (fun _ _ _ _ h => h))) (pa_cons (pv 1) pa_nil)) pa_nil)))), ?_⟩
  obtain ⟨dx, fs, nv, vs, hx, fl, hel, hn, hes⟩ := st.ex
  obtain ⟨a, dxs, fss, pa, ra, aa, ha, sl, ql, el', ev, hxs, fls, pF, hra, haa, hha⟩ := id hn.ex
  have nR : ∀ x ∈ RN, NoAttr K R x := TR.no
  have nn := nR "_now" (by unfold RN; simp)
  have ne := nR "_earlier" (by unfold RN; simp)
  refine ⟨_, rfl, x, dx, fs, rfl, hx, fl.no _ (by unfold RM; simp), _, rfl, x, R, dx, fs, _, rfl, hx, TR.cl, nn, fl.n, a, dxs, fss, ev, hl_in _ _ hxs, fls.no _ (by unfold TM; simp), _, rfl, ?_⟩
  refine ⟨L, nv, sv, z, rfl, lk, hn, kE, fun s' e v H2 s2 st' => ?_⟩
  exact ⟨L, x, el, sv, es, v, s', rfl, lk.same s2, st.same s2, st', le, fun H3 f3 lk3 st3 => kQ s' e H3 ((Fr.of s2).trans f3) lk3 st3⟩
theorem ok_lose {f S C R fG fM : Addr} {fd fdG fdM : FuncData} (F : Fun K "lose" "Store.lose" s_Store_lose f fd) (T : Txt mg) (TR : ObjC K mg "Store" R RN) (TS : ObjC K mg "State" S SN)
    (M_go : Meth K R "_go_on" fG) (G_go : FnOk P w K mg base CX0 1 fG fdG ["self", "state"] (sp_go S C R)) (b_go : Binds K fdG ["self", "state"] [])
    (M_los : Meth K S "behind_loss" fM) (G_los : FnOk P w K mg base CX0 8 fM fdM ["self"] (sp_los S C R)) (b_los : Binds K fdM ["self"] []) : FnOk P w K mg base CX0 10 f fd ["self"] (sp_lose S C R) := by
  refine F.ok sc_Store_lose (fun vs H Q E h => ?_) (fun cdv A outer s H vs Q E hr h => ?_)
  · obtain ⟨_, _, _, _, _, rfl, _⟩ := h
    rfl
  obtain ⟨L, x, el, sv, es, rfl, lk, st, le, kQ⟩ := h
  refine ⟨_, (pss_one (ps_expr (pe_methX (E := fun _ => E0) (pl := _) (pv 0) TR.cl M_go G_go (hr.mono (by decide)) b_go pass0A (pa_cons (pe_meth0X (E := fun _ => E0) (pl := _) (pe_fld (pv 0) rfl) TS.cl M_los G_los (hr.mono (by decide)) b_los pass0A) pa_nil)))), ?_⟩
  obtain ⟨dx, fs, nv, vs, hx, fl, hel, hn, hes⟩ := st.ex
  obtain ⟨a, dxs, fss, pa, ra, aa, ha, sl, ql, el', ev, hxs, fls, pF, hra, haa, hha⟩ := id hn.ex
  have nR : ∀ x ∈ RN, NoAttr K R x := TR.no
  have nn := nR "_now" (by unfold RN; simp)
  have ne := nR "_earlier" (by unfold RN; simp)
  refine ⟨_, rfl, x, dx, fs, rfl, hx, fl.no _ (by unfold RM; simp), _, rfl, x, R, dx, fs, _, rfl, hx, TR.cl, nn, fl.n, a, dxs, fss, ev, hl_in _ _ hxs, fls.no _ (by unfold TM; simp), ?_⟩
  refine ⟨L, nv, sv, rfl, lk, hn, fun v H2 s2 st' => ?_⟩
  exact ⟨L, x, el, sv, es, v, _, rfl, lk.same s2, st.same s2, st', le, fun H3 f3 lk3 st3 => kQ H3 ((Fr.of s2).trans f3) lk3 st3⟩
theorem ok_undo {f S C R X : Addr} {fd : FuncData} (F : Fun K "undo" "Store.undo" s_Store_undo f fd) (T : Txt mg) (TR : ObjC K mg "Store" R RN) (X4 : ExcC K mg "NothingToUndo" X) : FnOk P w K mg base (L2.CX P w) 1 f fd ["self"] (sp_undo S C R X) := by
  refine F.okX sc_Store_undo (fun vs H Q E h => ?_) (fun cdv A outer s H vs Q E hr h => ?_)
  · obtain ⟨_, _, _, _, rfl, _⟩ := h
    rfl
  obtain ⟨L, x, el, sv, rfl, lk, hh⟩ := h
  refine ⟨_, (pss_cons (ps_if (pt_not (pt_truth (pe_fld (pv 0) rfl) (by intro _; rfl)))
      (pss_one (ps_raise rfl (takes_of rfl rfl rfl rfl) (pmk_own PySem.F.excBase_ValueError X4.xP X4.gP X4.kP (raises_own X4.bP X4.tP) rfl)))
      pss_nil)
    (pss_one (ps_fld (pv 0) (pe_bm0 PySem.F.plainAttrs_list PySem.F.slot_list_pop PySem.F.type_list_pop mt_pop (pe_fld (pv 0) rfl)) rfl))), ?_⟩
  rcases hh with ⟨s0, es, st, kQ⟩ | ⟨st, kE⟩
  rotate_left
  · obtain ⟨dx, fs, nv, vs, hx, fl, hel, hn, hes⟩ := st.ex
    have nR : ∀ x ∈ RN, NoAttr K R x := TR.no
    have ne := nR "_earlier" (by unfold RN; simp)
    cases hes
    exact ⟨_, rfl, x, R, dx, fs, _, rfl, hx, TR.cl, ne, fl.e, false, .inl ⟨_, SqL.of hel, by simp⟩, kE H (Same.refl _)⟩
  obtain ⟨dx, fs, nv, vs, hx, fl, hel, hn, hes⟩ := st.ex
  have nR : ∀ x ∈ RN, NoAttr K R x := TR.no
  have nn := nR "_now" (by unfold RN; simp)
  have ne := nR "_earlier" (by unfold RN; simp)
  obtain ⟨us, u, rfl, hus, hu⟩ : ∃ us u, vs = us ++ [u] ∧ Paired (StV S C (hl L H)) us es ∧ StV S C (hl L H) u s0 := paired_snoc hes
  have xe : x ≠ el := fun e => by rw [e, hel] at hx; cases hx
  refine ⟨_, rfl, x, R, dx, fs, _, rfl, hx, TR.cl, ne, fl.e, true, .inl ⟨_, SqL.of hel, by simp⟩, iteF ?_⟩
  refine ⟨_, rfl, x, R, dx, fs, _, rfl, hx, TR.cl, ne, fl.e, .inl ⟨rfl, _, SqL.of hel⟩, el, _, u, rfl, rfl, hel, by simp, _, rfl, x, R, dx, fs, rfl, by rw [upd_ne xe]; exact hx, TR.cl, nn, by rw [fl.l]; decide, ?_⟩
  rw [List.dropLast_concat]
  have fr : Fr [x, el] H (upd (upd H el (.lst us)) x (.ins R dx (putF "_now" u fs))) := (Fr.refl.upd (by simp)).upd (by simp)
  have sL := fr.hl (L := L) (fun a ha => by
    simp only [List.mem_cons, List.not_mem_nil, or_false] at ha
    rcases ha with rfl | rfl
    · exact st.xm
    · exact st.em)
  refine kQ _ fr ((lk.upd (.inl ⟨_, rfl⟩)).upd (.inr ⟨_, _, rfl⟩)) ⟨⟨dx, _, u, us, upd_same, fl.now, ?_, hu.same sL, L2.Paired.mapP hus fun _ _ z => z.same sL⟩, st.xm, st.em⟩
  rw [upd_ne xe.symm, upd_same]
theorem ok_pplan {f S C R : Addr} {fd : FuncData} (F : Fun K "plan" "Store.plan" s_Store_plan f fd) (T : Txt mg) (TR : ObjC K mg "Store" R RN) (TS : ObjC K mg "State" S SN) : FnOk P w K mg base CX0 1 f fd ["self"] (sp_pplan S C R) := by
  refine F.ok sc_Store_plan (fun vs H Q E h => ?_) (fun cdv A outer s H vs Q E hr h => ?_)
  · obtain ⟨_, _, _, _, _, rfl, _⟩ := h
    rfl
  obtain ⟨L, x, el, sv, es, rfl, st, k⟩ := h
  refine ⟨_, (pss_one (ps_ret (pe_fld (pe_fld (pv 0) rfl) rfl))), ?_⟩
  obtain ⟨dx, fs, nv, vs, hx, fl, hel, hn, hes⟩ := st.ex
  obtain ⟨a, dxs, fss, pa, ra, aa, ha, sl, ql, el', ev, hxs, fls, pF, hra, haa, hha⟩ := id hn.ex
  have nR : ∀ x ∈ RN, NoAttr K R x := TR.no
  have nn := nR "_now" (by unfold RN; simp)
  have ne := nR "_earlier" (by unfold RN; simp)
  have nS : ∀ x ∈ SN, NoAttr K S x := TS.no
  have na := nS "active" (by unfold SN; simp)
  have nr := nS "ranks" (by unfold SN; simp)
  have nc := nS "arrived" (by unfold SN; simp)
  have nh := nS "held" (by unfold SN; simp)
  have hxH := hl_in _ _ hxs
  exact ⟨_, rfl, x, R, dx, fs, _, rfl, hx, TR.cl, nn, fl.n, a, S, dxs, fss, _, ev, hxH, TS.cl, na, fls.a, k pa sl ql el' pF⟩
theorem ok_pcame {f S C R : Addr} {fd : FuncData} (F : Fun K "came" "Store.came" s_Store_came f fd) (T : Txt mg) (TR : ObjC K mg "Store" R RN) (TS : ObjC K mg "State" S SN) : FnOk P w K mg base CX0 1 f fd ["self"] (sp_pcame S C R) := by
  refine F.ok sc_Store_came (fun vs H Q E h => ?_) (fun cdv A outer s H vs Q E hr h => ?_)
  · obtain ⟨_, _, _, _, _, rfl, _⟩ := h
    rfl
  obtain ⟨L, x, el, sv, es, rfl, st, k⟩ := h
  refine ⟨_, (pss_one (ps_ret (pe_callTy call_list' (by rfl) T.list (by decide +kernel) (pa_cons (pe_fld (pe_fld (pv 0) rfl) rfl) pa_nil)))), ?_⟩
  obtain ⟨dx, fs, nv, vs, hx, fl, hel, hn, hes⟩ := st.ex
  obtain ⟨a, dxs, fss, pa, ra, aa, ha, sl, ql, el', ev, hxs, fls, pF, hra, haa, hha⟩ := id hn.ex
  have nR : ∀ x ∈ RN, NoAttr K R x := TR.no
  have nn := nR "_now" (by unfold RN; simp)
  have ne := nR "_earlier" (by unfold RN; simp)
  have nS : ∀ x ∈ SN, NoAttr K S x := TS.no
  have na := nS "active" (by unfold SN; simp)
  have nr := nS "ranks" (by unfold SN; simp)
  have nc := nS "arrived" (by unfold SN; simp)
  have nh := nS "held" (by unfold SN; simp)
  have hxH := hl_in _ _ hxs
  exact ⟨_, rfl, x, R, dx, fs, _, rfl, hx, TR.cl, nn, fl.n, a, S, dxs, fss, _, ev, hxH, TS.cl, nc, fls.c, aa, _, rfl, .inl (hl_in _ _ haa), fun l H1 n1 s1 h1 => k l H1 s1 n1 h1⟩
theorem ok_pcont {f S C R : Addr} {fd : FuncData} (F : Fun K "content" "Store.content" s_Store_content f fd) (T : Txt mg) (TR : ObjC K mg "Store" R RN) (TS : ObjC K mg "State" S SN) : FnOk P w K mg base CX0 1 f fd ["self"] (sp_pcont S C R) := by
  refine F.ok sc_Store_content (fun vs H Q E h => ?_) (fun cdv A outer s H vs Q E hr h => ?_)
  · obtain ⟨_, _, _, _, _, rfl, _⟩ := h
    rfl
  obtain ⟨L, x, el, sv, es, rfl, st, k⟩ := h
  refine ⟨_, (pss_one (ps_ret (pe_fld (pe_fld (pv 0) rfl) rfl))), ?_⟩
  obtain ⟨dx, fs, nv, vs, hx, fl, hel, hn, hes⟩ := st.ex
  obtain ⟨a, dxs, fss, pa, ra, aa, ha, sl, ql, el', ev, hxs, fls, pF, hra, haa, hha⟩ := id hn.ex
  have nR : ∀ x ∈ RN, NoAttr K R x := TR.no
  have nn := nR "_now" (by unfold RN; simp)
  have ne := nR "_earlier" (by unfold RN; simp)
  have nS : ∀ x ∈ SN, NoAttr K S x := TS.no
  have na := nS "active" (by unfold SN; simp)
  have nr := nS "ranks" (by unfold SN; simp)
  have nc := nS "arrived" (by unfold SN; simp)
  have nh := nS "held" (by unfold SN; simp)
  have hxH := hl_in _ _ hxs
  exact ⟨_, rfl, x, R, dx, fs, _, rfl, hx, TR.cl, nn, fl.n, a, S, dxs, fss, _, ev, hxH, TS.cl, nh, fls.h, k ha hha⟩
theorem ok_pready {f S C R : Addr} {fd : FuncData} (F : Fun K "ready" "Store.ready" s_Store_ready f fd) (T : Txt mg) (TR : ObjC K mg "Store" R RN) (TS : ObjC K mg "State" S SN) (c_ready_behind : Cal P w K mg base 1 "ready_behind" ["epochs", "fall"] sp_ready) : FnOk P w K mg base CX0 2 f fd ["self"] (sp_pready S C R) := by
  refine F.ok sc_Store_ready (fun vs H Q E h => ?_) (fun cdv A outer s H vs Q E hr h => ?_)
  · obtain ⟨_, _, _, _, _, rfl, _⟩ := h
    rfl
  obtain ⟨L, x, el, sv, es, rfl, st, k⟩ := h
  refine ⟨_, (pss_one (ps_ret (pe_cal c_ready_behind hr (pa_cons (pe_fld (pe_fld (pv 0) rfl) rfl) (pa_cons (pe_fld (pe_fld (pv 0) rfl) rfl) pa_nil))))), ?_⟩
  obtain ⟨dx, fs, nv, vs, hx, fl, hel, hn, hes⟩ := st.ex
  obtain ⟨a, dxs, fss, pa, ra, aa, ha, sl, ql, el', ev, hxs, fls, pF, hra, haa, hha⟩ := id hn.ex
  have nR : ∀ x ∈ RN, NoAttr K R x := TR.no
  have nn := nR "_now" (by unfold RN; simp)
  have ne := nR "_earlier" (by unfold RN; simp)
  have nS : ∀ x ∈ SN, NoAttr K S x := TS.no
  have na := nS "active" (by unfold SN; simp)
  have nr := nS "ranks" (by unfold SN; simp)
  have nc := nS "arrived" (by unfold SN; simp)
  have nh := nS "held" (by unfold SN; simp)
  have hxH := hl_in _ _ hxs
  have o := hn.ok
  have lr := rkP_len sv.pl
  have pc := pF.ok.pc
  have cl : sv.came.length ≤ (rkP sv.pl).length := by rw [lr]; exact nd_len _ _ o.nd o.lt
  exact ⟨_, rfl, x, R, dx, fs, _, rfl, hx, TR.cl, nn, fl.n, a, S, dxs, fss, _, ev, hxH, TS.cl, nr, fls.r, _, rfl, x, R, dx, fs, _, rfl, hx, TR.cl, nn, fl.n, a, S, dxs, fss, _, ev, hxH, TS.cl, nc, fls.c, ra, aa, _, _, rfl, hl_in _ _ hra, hl_in _ _ haa, cl, by omega, k⟩
theorem ok_plen {f S C R : Addr} {fd : FuncData} (F : Fun K "__len__" "Store.__len__" s_Store___len f fd) (T : Txt mg) (TR : ObjC K mg "Store" R RN) (TS : ObjC K mg "State" S SN) : FnOk P w K mg base CX0 1 f fd ["self"] (sp_plen S C R) := by
  refine F.ok sc_Store___len (fun vs H Q E h => ?_) (fun cdv A outer s H vs Q E hr h => ?_)
  · obtain ⟨_, _, _, _, _, rfl, _⟩ := h
    rfl
  obtain ⟨L, x, el, sv, es, rfl, st, k⟩ := h
  refine ⟨_, (pss_one (ps_ret (pe_callB call_len' (by rfl) T.len (by decide +kernel) (pa_cons (pe_fld (pv 0) rfl) pa_nil)))), ?_⟩
  obtain ⟨dx, fs, nv, vs, hx, fl, hel, hn, hes⟩ := st.ex
  obtain ⟨a, dxs, fss, pa, ra, aa, ha, sl, ql, el', ev, hxs, fls, pF, hra, haa, hha⟩ := id hn.ex
  have nR : ∀ x ∈ RN, NoAttr K R x := TR.no
  have nn := nR "_now" (by unfold RN; simp)
  have ne := nR "_earlier" (by unfold RN; simp)
  have nS : ∀ x ∈ SN, NoAttr K S x := TS.no
  have na := nS "active" (by unfold SN; simp)
  have nr := nS "ranks" (by unfold SN; simp)
  have nc := nS "arrived" (by unfold SN; simp)
  have nh := nS "held" (by unfold SN; simp)
  have hxH := hl_in _ _ hxs
  refine ⟨_, rfl, x, R, dx, fs, _, rfl, hx, TR.cl, ne, fl.e, el, _, rfl, .inl hel, ?_⟩
  rw [paired_len hes]
  exact k
end
end Af

set_option Elab.async false
set_option linter.all false
set_option maxRecDepth 100000
set_option maxHeartbeats 8000000
namespace Af
open PySem L2
theorem hl_mem {L N : List Addr} {H : Hp} (h : ∀ a, a ∈ L ↔ a ∈ N) : hl L H = hl N H := by
  funext a
  unfold hl
  by_cases m : a ∈ L
  · rw [if_pos m, if_pos ((h a).mp m)]
  · rw [if_neg m, if_neg fun z => m ((h a).mpr z)]
theorem Ko.fr {x : Addr} {H H' : Hp} (k : Ko x H H') (n : H x = none) : Same H H' := fun b u e => k b u (ne_of_none e n) e
section
variable {P : Program} {w : World} {K : PySem.W.Frag} {mg : Str → Option Value} {base : Heap}
theorem ok_rinit {f S C R fI : Addr} {fd fdI : FuncData} (F : Fun K "__init__" "Store.__init__" s_Store___init f fd) (T : Txt mg) (TR : ObjC K mg "Store" R RN) (TC : PlanC K mg C) (neC : C ≠ R)
    (M_Plan : Mk K C fI) (G_Plan : FnOk P w K mg base CX0 6 fI fdI ["self", "base", "width", "steps"] (sp_initX C)) (b_Plan : Binds K fdI ["self", "base", "width", "steps"] [])
    (c_begun : Cal P w K mg base 6 "begun" ["plan"] (sp_begun S C R)) : FnOk P w K mg base CX0 8 f fd ["self", "base", "width"] (sp_rinit S C R) := by
  refine F.ok sc_Store___init (fun vs H Q E h => ?_) (fun cdv A outer s H vs Q E hr h => ?_)
  · obtain ⟨_, _, _, _, _, _, rfl, _⟩ := h
    rfl
  obtain ⟨L, a, dx, ca, cs, wd, rfl, ha, lk, na, hca, okp, k⟩ := h
  refine ⟨_, (pss_cons (ps_fld (pv 0) (pe_cal c_begun hr (pa_cons (pe_make M_Plan G_Plan (hr.mono (by decide)) rfl TC.mgC b_Plan .nil pass0 (pa_cons (pv 1) (pa_cons (pv 2) (pa_cons (pe_lst' pa_nil) pa_nil)))) pa_nil)) rfl)
    (pss_one (ps_fld (pv 0) (pe_lst' pa_nil) rfl))), ?_⟩
  have nR : ∀ x ∈ RN, NoAttr K R x := TR.no
  have nn := nR "_now" (by unfold RN; simp)
  have ne := nR "_earlier" (by unfold RN; simp)
  refine ⟨_, rfl, _, rfl, szr, fun l1 H1 n1 s1 h1 => fun x dy hx hdy ndy => ?_⟩
  have sm := s0_made (C := C) hx hdy
  refine made_outW (K := K) (pl := ⟨cs, wd, []⟩) rfl hx sm upd_same (sm _ _ (s1 _ _ hca)) (sm _ _ h1) .nil okp fun H2 s2 n2 => ⟨rfl, ?_⟩
  obtain ⟨sl', ql', el', pF', m1, m2, m3⟩ := n2.ex
  have lkA : Lok R ([a] ++ L) H := lk.app fun b m => by
    rw [List.mem_singleton.mp m]
    exact .inr ⟨_, _, ha⟩
  have lk1 := lkA.same s1
  have lk2 := lk1.same s2
  have pL := plan_hl lk2 neC pF' (lk1.new m1) (lk1.new m2) (lk1.new m3)
  refine ⟨[a] ++ L, _, _, sl', ql', el', rfl, lk2, pL, fun v H3 s3 st => ?_⟩
  have S3 := s1.trans (s2.trans s3)
  have ha3 := S3 _ _ ha
  refine ⟨_, rfl, a, R, dx, [], rfl, ha3, TR.cl, nn, by show 0 < 1000; decide, ?_⟩
  have k4 : Ko a H (upd H3 a (.ins R dx (putF "_now" v []))) := (Ko.same (fun _ _ _ e => e : Ko a H H) S3).upd
  have f4 : Fr [a] H3 (upd H3 a (.ins R dx (putF "_now" v []))) := Fr.refl.upd (by simp)
  have st4 := st.same (f4.hl (L := [a] ++ L) (fun b m => List.mem_append.mpr (.inl m)))
  have lk4 : Lok R ([a] ++ L) (upd H3 a (.ins R dx (putF "_now" v []))) := (lk2.same s3).upd (.inr ⟨_, _, rfl⟩)
  have ha4 : (upd H3 a (.ins R dx (putF "_now" v []))) a = some (.ins R dx (putF "_now" v [])) := upd_same
  generalize upd H3 a (.ins R dx (putF "_now" v [])) = H4 at k4 st4 lk4 ha4 ⊢
  refine ⟨szr, fun el H5 n5 s5 h5 => ⟨_, rfl, a, R, dx, _, rfl, s5 _ _ ha4, TR.cl, ne, Nat.lt_of_le_of_lt (len_put (Nat.le_refl _)) (by decide), ?_⟩⟩
  have nel : H el = none := by
    cases z : H el with
    | none => rfl
    | some o =>
      by_cases e : el = a
      · rw [e, ha4] at n5
        cases n5
      · rw [k4 _ _ e z] at n5
        cases n5
  have ae : el ≠ a := fun e => by rw [e, ha4] at n5; cases n5
  have k6 : Ko a H (upd H5 a (.ins R dx (putF "_earlier" (.ref el) (putF "_now" v [])))) := (k4.same s5).upd
  have f6 : Fr [a] H5 (upd H5 a (.ins R dx (putF "_earlier" (.ref el) (putF "_now" v [])))) := Fr.refl.upd (by simp)
  have e5 := hl_mem (L := [el] ++ ([a] ++ L)) (N := [a, el] ++ L) (H := upd H5 a (.ins R dx (putF "_earlier" (.ref el) (putF "_now" v [])))) (fun b => by simp; constructor <;> (rintro (h | h | h) <;> simp [h]))
  have q5 : Same (hl ([a] ++ L) H4) (hl ([el] ++ ([a] ++ L)) (upd H5 a (.ins R dx (putF "_earlier" (.ref el) (putF "_now" v []))))) := hl_more (Same.trans (hl_same s5) (f6.hl (L := [a] ++ L) (fun b m => List.mem_append.mpr (.inl m)))) fun b m => by
    rw [List.mem_singleton.mp m]
    exact n5
  rw [e5] at q5
  have lk6 : Lok R ([a, el] ++ L) (upd H5 a (.ins R dx (putF "_earlier" (.ref el) (putF "_now" v [])))) := by
    refine Lok.upd (R := R) (L := [a, el] ++ L) (H := H5) ?_ (.inr ⟨_, _, rfl⟩)
    intro b m
    simp only [List.cons_append, List.nil_append, List.mem_cons] at m
    rcases m with rfl | rfl | m
    · exact .inr ⟨_, _, s5 _ _ ha4⟩
    · exact .inl ⟨_, h5⟩
    · exact (lk4.same s5) b (List.mem_append.mpr (.inr m))
  exact k _ el k6 nel lk6 ⟨⟨dx, _, v, [], upd_same, fld_R, by rw [upd_ne ae]; exact h5, st4.same q5, .nil⟩, by simp, by simp⟩
end
end Af

set_option Elab.async false
set_option linter.all false
set_option maxRecDepth 100000
set_option maxHeartbeats 8000000
namespace Af
open PySem L2
abbrev s_l_parts : Stmt := top 45
abbrev N_l_parts : List Str := ["_law_triple", "_law_found", "_law_rank", "_law_step_here", "_law_first", "_law_row", "_law_k"]
theorem sc_l_parts : FnScope N_l_parts ["_law_triple"] (defScope s_l_parts) := ⟨rfl, rfl, rfl, by decide +kernel, rfl, by decide +kernel, by decide +kernel⟩

/-! the law's parts: (rank, {cell: worth}) -/
def rowsI : Int → List Int → List (L2.Key × V)
  | _, [] => []
  | st, z :: r => (.inl st, .int z) :: rowsI (st + 1) r
theorem rowsI_snoc : ∀ (ws : List Int) (st z : Int), rowsI st (ws ++ [z]) = rowsI st ws ++ [(.inl (st + (ws.length : Int)), .int z)]
  | [], st, z => by
    show [(Sum.inl st, V.int z)] = [(Sum.inl (st + ((0 : Nat) : Int)), V.int z)]
    rw [show st + ((0 : Nat) : Int) = st by omega]
  | x :: r, st, z => by
    show (.inl st, .int x) :: rowsI (st + 1) (r ++ [z]) = _
    rw [rowsI_snoc r (st + 1) z, List.length_cons, show st + 1 + (r.length : Int) = st + ((r.length + 1 : Nat) : Int) by omega]
    rfl
theorem rowsI_len : ∀ (ws : List Int) (st : Int), (rowsI st ws).length = ws.length
  | [], _ => rfl
  | _ :: r, st => by
    show (rowsI (st + 1) r).length + 1 = _
    rw [rowsI_len r]
    rfl
theorem rowsI_key : ∀ (ws : List Int) (st k : Int), (Sum.inl k : L2.Key) ∈ (rowsI st ws).map (·.1) → st ≤ k ∧ k < st + (ws.length : Int)
  | [], _, _, h => by cases h
  | x :: r, st, k, h => by
    rcases List.mem_cons.mp h with e | h
    · injection e with e
      subst e
      rw [List.length_cons]
      omega
    · have := rowsI_key r (st + 1) k h
      rw [List.length_cons]
      omega
abbrev Prt := Int × (Int × List Int)
def PartV (H : Hp) (x : V) (p : Prt) : Prop := ∃ t d, x = .ref t ∧ H t = some (.tup [.int p.1, .ref d]) ∧ H d = some (.dK (rowsI p.2.1 p.2.2))
theorem parts_same {H H' : Hp} {xs : List V} {ps : List Prt} (s : Same H H') (h : Paired (PartV H) xs ps) : Paired (PartV H') xs ps := L2.Paired.mapP h fun _ _ ⟨t, d, e, h1, h2⟩ => ⟨t, d, e, s _ _ h1, s _ _ h2⟩
def oneQ (w : Int) (k : Nat) : Stp → List Prt
  | none => []
  | some (f, ws) => (spl w f [] f ws).map fun p => ((k : Int), p)
def nb : List Stp → Nat
  | [] => 0
  | none :: r => nb r + 1
  | some _ :: r => nb r
theorem nb_snoc : ∀ (l : List Stp) (s : Stp), nb (l ++ [s]) = nb l + (if s.isNone = true then 1 else 0)
  | [], none => rfl
  | [], some _ => rfl
  | none :: r, s => by
    show nb (r ++ [s]) + 1 = nb r + 1 + _
    rw [nb_snoc r s]
    omega
  | some _ :: r, s => by
    show nb (r ++ [s]) = nb r + _
    exact nb_snoc r s
def ptsL (w : Int) : Nat → List Stp → List Prt
  | _, [] => []
  | k, s :: r => oneQ w k s ++ ptsL w (if s.isNone = true then k + 1 else k) r
theorem ptsL_snoc (w : Int) (s : Stp) : ∀ (l : List Stp) (k : Nat), ptsL w k (l ++ [s]) = ptsL w k l ++ oneQ w (k + nb l) s
  | [], k => by
    show oneQ w k s ++ [] = [] ++ oneQ w k s
    rw [List.append_nil, List.nil_append]
  | none :: r, k => by
    show [] ++ ptsL w (k + 1) (r ++ [s]) = [] ++ ptsL w (k + 1) r ++ _
    rw [ptsL_snoc w s r (k + 1), List.nil_append, List.nil_append, show k + 1 + nb r = k + (nb r + 1) by omega]
    rfl
  | some x :: r, k => by
    show oneQ w k (some x) ++ ptsL w k (r ++ [s]) = oneQ w k (some x) ++ ptsL w k r ++ _
    rw [ptsL_snoc w s r k, List.append_assoc]
    rfl
/-- one worth more -/
def snocS (w : Int) (l : List (Int × List Int)) (pos x : Int) : List (Int × List Int) := if pos % w = 0 then l ++ [(pos, [x])] else l.dropLast ++ (l.getLast?.toList.map fun p => (p.1, p.2 ++ [x]))
theorem spl_ne {w : Int} : ∀ (r acc : List Int) (st pos : Int), spl w st acc pos r ≠ []
  | [], _, _, _ => by simp [spl]
  | x :: r, acc, st, pos => by
    by_cases c : acc ≠ [] ∧ pos % w = 0
    · rw [spl_cut c]; simp
    · rw [spl_go c]; exact spl_ne r _ _ _
theorem snocS_cons {w pos x : Int} {p : Int × List Int} {l : List (Int × List Int)} (ne : l ≠ []) : snocS w (p :: l) pos x = p :: snocS w l pos x := by
  unfold snocS
  by_cases c : pos % w = 0
  · rw [if_pos c, if_pos c]
    rfl
  · rw [if_neg c, if_neg c]
    cases l with
    | nil => exact absurd rfl ne
    | cons y ys => rfl
theorem spl_snoc {w : Int} (x : Int) : ∀ (r acc : List Int) (st pos : Int), acc ≠ [] ∨ r ≠ [] → spl w st acc pos (r ++ [x]) = snocS w (spl w st acc pos r) (pos + (r.length : Int)) x
  | [], acc, st, pos, h => by
    have na : acc ≠ [] := by
      rcases h with h | h
      · exact h
      · exact absurd rfl h
    show spl w st acc pos [x] = snocS w [(st, acc)] (pos + ((0 : Nat) : Int)) x
    rw [show pos + ((0 : Nat) : Int) = pos by omega]
    by_cases c : pos % w = 0
    · rw [spl_cut ⟨na, c⟩]
      unfold snocS
      rw [if_pos c]
      rfl
    · rw [spl_go (fun z => c z.2)]
      unfold snocS
      rw [if_neg c]
      rfl
  | y :: r, acc, st, pos, _ => by
    have e : pos + ((y :: r).length : Int) = pos + 1 + (r.length : Int) := by rw [List.length_cons]; omega
    rw [e]
    by_cases c : acc ≠ [] ∧ pos % w = 0
    · rw [List.cons_append, spl_cut c, spl_cut c, spl_snoc x r [y] pos (pos + 1) (.inl (by simp)), snocS_cons (spl_ne _ _ _ _)]
    · rw [List.cons_append, spl_go c, spl_go c]
      exact spl_snoc x r (acc ++ [y]) st (pos + 1) (.inl (by simp))
/-- the last part so far has the worths up to here -/
theorem spl_last {w : Int} : ∀ (r acc : List Int) (st pos : Int), pos = st + (acc.length : Int) → ∃ l0 s0 a0, spl w st acc pos r = l0 ++ [(s0, a0)] ∧ s0 + (a0.length : Int) = pos + (r.length : Int)
  | [], acc, st, pos, h => ⟨[], st, acc, rfl, by show st + _ = pos + ((0 : Nat) : Int); omega⟩
  | x :: r, acc, st, pos, h => by
    have e : pos + ((x :: r).length : Int) = pos + 1 + (r.length : Int) := by rw [List.length_cons]; omega
    rw [e]
    by_cases c : acc ≠ [] ∧ pos % w = 0
    · rw [spl_cut c]
      obtain ⟨l0, s0, a0, h1, h2⟩ := spl_last r [x] pos (pos + 1) rfl
      exact ⟨(st, acc) :: l0, s0, a0, by rw [h1]; rfl, h2⟩
    · rw [spl_go c]
      exact spl_last r (acc ++ [x]) st (pos + 1) (by rw [List.length_append, h]; show _ = st + ((acc.length + 1 : Nat) : Int); omega)
def sp_lparts (K : PySem.W.Frag) : Sp := fun vs H Q _ => ∃ (a sa ca : Addr) (sp : Int) (xs : List V) (sts : List Stp), vs = [.ref a] ∧ H a = some (.tup [.ref ca, .int sp, .ref sa]) ∧ H sa = some (.lst xs) ∧ Paired (StepV H) xs sts ∧ 0 < sp ∧ xs.length ≤ 100 ∧ (∀ x ∈ sts, OkS 24 x) ∧
  ∀ l H' ys, Same H H' → H l = none → H' l = some (.lst ys) → Paired (PartV H') ys (ptsL sp 0 sts) → Q (.ref l) H'
theorem same_mut' {H : Hp} {l : Addr} {o : HO} (h : H l = some o) : Same H (upd H l o) := fun a u e => by
  by_cases c : a = l
  · rw [c] at e ⊢
    rw [upd_same]
    rw [h] at e
    exact e
  · rw [upd_ne c]
    exact e
theorem oneQ_len {w : Int} {k : Nat} {s : Stp} (o : OkS 24 s) : (oneQ w k s).length ≤ 25 := by
  cases s with
  | none => exact Nat.zero_le _
  | some fw =>
    obtain ⟨f, ws⟩ := fw
    obtain ⟨o1, o2, o3, o4⟩ := o
    show ((spl w f [] f ws).map _).length ≤ 25
    rw [List.length_map]
    have := spl_len (w := w) ws [] f f
    omega
section
variable {P : Program} {w : World} {K : PySem.W.Frag} {mg : Str → Option Value} {base : Heap}
theorem at_end {xs : List V} {x : V} : atI (xs ++ [x]) (-1) = some x := by
  unfold atI ixN
  rw [List.length_append, if_neg (by decide), if_pos (show -(((xs.length + [x].length : Nat) : Nat) : Int) ≤ -1 by simp; omega)]
  show (xs ++ [x])[(((xs.length + [x].length : Nat) : Int) + -1).toNat]? = _
  rw [show (((xs.length + [x].length : Nat) : Int) + -1).toNat = xs.length by simp; omega]
  simp
theorem ok_lparts {f : Addr} {fd : FuncData} (F : Fun K "_law_parts" "_law_parts" s_l_parts f fd) (T : Txt mg) : FnOk P w K mg base CX0 1 f fd ["_law_triple"] (sp_lparts K) := by
  refine F.ok sc_l_parts (fun vs H Q E h => ?_) (fun cdv A outer s H vs Q E hr h => ?_)
  · obtain ⟨_, _, _, _, _, _, rfl, _⟩ := h
    rfl
  obtain ⟨a, sa, ca, sp, xs, sts, rfl, ha, hsa, hst, sp0, xl, oks, k⟩ := h
  refine ⟨_, (pss_cons (ps_par (i := 1) (j := 2) rfl sc_l_parts.nd rfl rfl (by decide) rfl rfl (pa_cons (pe_lst' pa_nil) (pa_cons pe_int pa_nil)) (by rfl))
    (pss_cons (ps_for PassesOwn.never rfl (pi_list (pe_ix ix_seq' (pv 0) pe_int (fun _ _ => rfl))) (pg_name (i := 3) sc_l_parts.nd rfl (Or.inl rfl))
      (pss_one (ps_if (pt_cmpR op_isN (pv 3) pe_non (nomark _))
      (pss_one (ps_set (i := 2) sc_l_parts.nd rfl (Or.inl rfl) (pe_op op_add (pv 2) pe_int)))
      (pss_cons (ps_asg (pv 3) (pg_tup rfl (pgs_cons (pg_name (i := 4) sc_l_parts.nd rfl (Or.inl rfl)) (pgs_cons (pg_name (i := 5) sc_l_parts.nd rfl (Or.inl rfl)) pgs_nil))))
    (pss_one (ps_for PassesOwn.never rfl (pi_range1 rfl T.range (pa_cons (pe_callB call_len' (by rfl) T.len (by decide +kernel) (pa_cons (pv 5) pa_nil)) pa_nil)) (pg_name (i := 6) sc_l_parts.nd rfl (Or.inl rfl))
      (pss_cons (ps_cut (ps_if (PW.pt (pw_or (pt_cmpR op_eq (pv 6) pe_int (nomark _)) (pw_or1 (pt_cmpR op_eq (pe_op op_mod (pe_callTy call_int1 (by rfl) T.int (by decide +kernel) (pa_cons (pe_op op_add (pv 4) (pv 6)) pa_nil)) (pe_ix ix_seq' (pv 0) pe_int (fun _ _ => rfl))) pe_int (nomark _)))))
      (pss_one (ps_expr (pe_bm PySem.F.plainAttrs_list PySem.F.slot_list_append PySem.F.type_list_append mt_append (pv 1) (pa_cons (pe_tup' (pa_cons (pv 2) (pa_cons pe_dnewK pa_nil))) pa_nil))))
      pss_nil))
    (pss_one (ps_asg (pe_ix ix_seq' (pv 5) (pv 6) (fun _ _ => rfl)) (pg_sub (pe_ix ix_seq' (pe_ix ix_seq' (pv 1) (pe_un un_neg pe_int) (fun _ _ => rfl)) pe_int (fun _ _ => rfl)) (pe_op op_add (pv 4) (pv 6)) (set_dict hr.u1)))))))))))
    (pss_one (ps_ret (pv 1))))), ?_⟩
  refine ⟨szr, fun l H1 n1 s1 h1 => ⟨_, _, rfl, ?_⟩⟩
  refine ⟨_, rfl, a, _, 2, _, rfl, rfl, .inr (s1 _ _ ha), rfl, sa, rfl, ⟨_, SqL.of (s1 _ _ hsa)⟩, for_list (K := K) (a := sa) (xs := xs) (fun i σ' H' => ∃ v3 v4 v5 v6 ys, σ' = [some (.ref a), some (.ref l), some (.int ((nb (sts.take i) : Nat) : Int)), v3, v4, v5, v6] ∧ Same H H' ∧ H' l = some (.lst ys) ∧ Paired (PartV H') ys (ptsL sp 0 (sts.take i)) ∧ ys.length ≤ 25 * i) ?_ ?_ ?_ ?_⟩
  · exact ⟨_, _, _, _, [], rfl, s1, h1, .nil, Nat.zero_le _⟩
  · rintro i σ' H' _ ⟨_, _, _, _, _, _, s2, _⟩
    exact SqL.of (s2 _ _ hsa)
  · rintro i y σ' H2 hy ⟨v3, v4, v5, v6, ys, rfl, s2, h2, p2, yl⟩
    obtain ⟨st, hs, sv⟩ := Af.paired_get (steps_same s2 hst) hy
    have tk : sts.take (i + 1) = sts.take i ++ [st] := by rw [List.take_succ, hs]; rfl
    have ok := oks st (List.mem_of_getElem? hs)
    have i100 : i < 100 := by
      have := (List.getElem?_eq_some_iff.mp hy).1
      omega
    have en := nb_snoc (sts.take i) st
    have ep := ptsL_snoc sp st (sts.take i) 0
    rw [← tk] at en ep
    rw [Nat.zero_add] at ep
    cases st with
    | none =>
      have sv : y = .non := sv
      subst sv
      refine ⟨_, rfl, rfl, _, rfl, iteT ⟨_, rfl, _, _, rfl, rfl, ?_⟩⟩
      refine ⟨some .non, v4, v5, v6, ys, ?_, s2, h2, by rw [ep]; show Paired (PartV H2) ys (_ ++ []); rw [List.append_nil]; exact p2, by omega⟩
      show [some (V.ref a), some (.ref l), some (.int (((nb (sts.take i) : Nat) : Int) + 1)), some .non, v4, v5, v6] = _
      rw [en]
      rfl
    | some fw =>
      obtain ⟨f0, ws⟩ := fw
      obtain ⟨t, b, rfl, ht, hb⟩ := sv
      obtain ⟨o1, o2, o3, o4⟩ := ok
      obtain ⟨rk, erk⟩ : ∃ rk, rk = nb (sts.take i) := ⟨_, rfl⟩
      rw [← erk] at ep
      have en' : nb (sts.take (i + 1)) = rk := by rw [en, ← erk]; rfl
      rw [← erk]
      refine ⟨_, rfl, rfl, _, rfl, iteF ⟨_, rfl, t, _, rfl, SqT.of ht, rfl, _, _, rfl, _, _, rfl, rfl, ?_⟩⟩
      refine ⟨_, rfl, b, _, rfl, .inr hb, _, rfl, ?_, ?_, ?_⟩
      · rw [ivs_len]; omega
      · rw [ivs_len]; omega
      rw [ivs_len]
      refine for_range (n := ws.length) (lo := 0) (fun j σ' H' => ∃ v6, σ' = [some (.ref a), some (.ref l), some (.int ((rk : Nat) : Int)), some (.ref t), some (.int f0), some (.ref b), v6] ∧ Same H H' ∧ Same H2 (upd H' l (.lst ys)) ∧
        ((j = 0 ∧ H' l = some (.lst ys) ∧ Paired (PartV H') ys (ptsL sp 0 (sts.take i))) ∨ (1 ≤ j ∧ ∃ zs u d qs st acc, H' l = some (.lst (zs ++ [.ref u])) ∧ Paired (PartV (hd d H')) zs qs ∧ H' u = some (.tup [.int ((rk : Nat) : Int), .ref d]) ∧ H' d = some (.dK (rowsI st acc)) ∧ H d = none ∧ H2 d = none ∧
          ptsL sp 0 (sts.take i) ++ (spl sp f0 [] f0 (ws.take j)).map (fun p => (((rk : Nat) : Int), p)) = qs ++ [(((rk : Nat) : Int), (st, acc))] ∧ st + (acc.length : Int) = f0 + (j : Int)))) ?_ ?_ ?_
      · exact ⟨_, rfl, s2, same_mut' h2, .inl ⟨rfl, h2, p2⟩⟩
      · rintro j σ' H3 hj ⟨v6, rfl, s3, m3, hh⟩
        have hj' : j < ws.length := hj
        obtain ⟨z, hz⟩ : ∃ z, ws[j]? = some z := ⟨_, List.getElem?_eq_getElem hj'⟩
        have tkw : ws.take (j + 1) = ws.take j ++ [z] := by rw [List.take_succ, hz]; rfl
        have lj : (ws.take j).length = j := by rw [List.length_take]; omega
        have hb3 : H3 b = some (.tup (ivs ws)) := by
          have := m3 _ _ hb
          rw [upd_ne (fun e => by rw [e, h2] at hb; cases hb)] at this
          exact this
        have ha3 := s3 _ _ ha
        have ej : (0 : Int) + ((j : Nat) : Int) = ((j : Nat) : Int) := Int.zero_add _
        rw [ej]
        refine ⟨fun σ' H' => σ' = [some (.ref a), some (.ref l), some (.int ((rk : Nat) : Int)), some (.ref t), some (.int f0), some (.ref b), some (.int ((j : Nat) : Int))] ∧ Same H H' ∧ Same H2 (upd H' l (.lst ys)) ∧
          ∃ zs u d qs st acc, H' l = some (.lst (zs ++ [.ref u])) ∧ Paired (PartV (hd d H')) zs qs ∧ H' u = some (.tup [.int ((rk : Nat) : Int), .ref d]) ∧ H' d = some (.dK (rowsI st acc)) ∧ H d = none ∧ H2 d = none ∧ acc.length ≤ 1000 ∧
            ptsL sp 0 (sts.take i) ++ (spl sp f0 [] f0 (ws.take (j + 1))).map (fun p => (((rk : Nat) : Int), p)) = qs ++ [(((rk : Nat) : Int), (st, acc ++ [z]))] ∧ st + (acc.length : Int) = f0 + (j : Int), ?_, ?_⟩
        · have g2 : ∀ {c : Addr}, H3 c = none → c ≠ l → H2 c = none := fun {c} n cl => by
            cases e : H2 c with
            | none => rfl
            | some o =>
              have := m3 c o e
              rw [upd_ne cl, n] at this
              cases this
          have app : ∀ (D : Ends) (ys0 : List V) (pts' : List Prt), (∀ σ' H', (σ' = [some (.ref a), some (.ref l), some (.int ((rk : Nat) : Int)), some (.ref t), some (.int f0), some (.ref b), some (.int ((j : Nat) : Int))] ∧ Same H H' ∧ Same H2 (upd H' l (.lst ys)) ∧
              ∃ zs u d qs st acc, H' l = some (.lst (zs ++ [.ref u])) ∧ Paired (PartV (hd d H')) zs qs ∧ H' u = some (.tup [.int ((rk : Nat) : Int), .ref d]) ∧ H' d = some (.dK (rowsI st acc)) ∧ H d = none ∧ H2 d = none ∧ acc.length ≤ 1000 ∧
                ptsL sp 0 (sts.take i) ++ (spl sp f0 [] f0 (ws.take (j + 1))).map (fun p => (((rk : Nat) : Int), p)) = qs ++ [(((rk : Nat) : Int), (st, acc ++ [z]))] ∧ st + (acc.length : Int) = f0 + (j : Int)) → D.nx σ' H') →
              H3 l = some (.lst ys0) → Paired (PartV H3) ys0 pts' → ys0.length ≤ 5000 → ptsL sp 0 (sts.take i) ++ (spl sp f0 [] f0 (ws.take (j + 1))).map (fun p => (((rk : Nat) : Int), p)) = pts' ++ [(((rk : Nat) : Int), (f0 + (j : Int), [z]))] →
              tDrop (tBM K "list" rAppend (tVar 1) (tCons (tTup' (tCons (tVar 2) (tCons tDNewK tNil))) tNil)) D [some (.ref a), some (.ref l), some (.int ((rk : Nat) : Int)), some (.ref t), some (.int f0), some (.ref b), some (.int ((j : Nat) : Int))] H3 := fun D ys0 pts' hD hl0 p0 y0 eq => by
            refine ⟨_, rfl, .inl ⟨rfl, _, SqL.of hl0⟩, _, rfl, fun d hdn => ⟨szr, fun u H5 n5 s5 h5 => ?_⟩⟩
            have ld : l ≠ d := fun e => by rw [← e, hl0] at hdn; cases hdn
            have sd := (same_new (o := .dK []) hdn).trans s5
            have hl5 := sd _ _ hl0
            have hd5 : H5 d = some (.dK []) := s5 _ _ upd_same
            have ul : u ≠ l := fun e => by rw [e, hl5] at h5; cases h5
            have nH : H d = none := s3.free hdn
            have nl : H l = none := n1
            refine ⟨l, ys0, _, rfl, rfl, hl5, szl (by omega), hD _ _ ⟨rfl, same_mut (s3.trans sd) nl, fun c o e => ?_, ys0, u, d, pts', f0 + (j : Int), [], upd_same, ?_, by rw [upd_ne ul]; exact h5, by rw [upd_ne ld.symm]; exact hd5, nH, g2 hdn ld.symm, Nat.zero_le _, eq, by show f0 + (j : Int) + ((0 : Nat) : Int) = _; omega⟩⟩
            · have := m3 c o e
              by_cases cl : c = l
              · rw [cl] at this ⊢
                rw [upd_same] at this ⊢
                exact this
              · rw [upd_ne cl] at this ⊢
                rw [upd_ne cl]
                exact sd _ _ this
            · refine L2.Paired.mapP p0 fun x p ⟨tt, dd, e, e1, e2⟩ => ⟨tt, dd, e, ?_, ?_⟩
              · have ne : tt ≠ d := fun zz => by rw [zz, hdn] at e1; cases e1
                have nl : tt ≠ l := fun zz => by rw [zz, hl0] at e1; cases e1
                rw [hd_ne ne, upd_ne nl]
                exact sd _ _ e1
              · have ne : dd ≠ d := fun zz => by rw [zz, hdn] at e2; cases e2
                have nl : dd ≠ l := fun zz => by rw [zz, hl0] at e2; cases e2
                rw [hd_ne ne, upd_ne nl]
                exact sd _ _ e2
          rcases hh with ⟨j0, hl3, p3⟩ | ⟨j1, zs, u, d, qs, st, acc, hl3, pz, hu, hdd, nd, nd2, eq, es⟩
          · subst j0
            refine ⟨_, rfl, rfl, _, rfl, iteT' (by rfl) (app _ ys _ (fun _ _ h => h) hl3 p3 (by omega) ?_)⟩
            rw [tkw, show f0 + ((0 : Nat) : Int) = f0 by omega]
            show _ ++ (spl sp f0 [] f0 [z]).map _ = _
            rw [spl_go (fun h => h.1 rfl)]
            rfl
          · have ne0 : ws.take j ≠ [] := fun e => by rw [e] at lj; simp at lj; omega
            have sn := spl_snoc (w := sp) z (ws.take j) [] f0 f0 (.inr ne0)
            rw [← tkw, lj] at sn
            obtain ⟨l0, s0, a0, q1, q2⟩ := spl_last (w := sp) (ws.take j) [] f0 f0 (by show f0 = f0 + ((0 : Nat) : Int); omega)
            refine ⟨_, rfl, rfl, _, rfl, iteF' (by simp; omega) ?_⟩
            have fin : (ptsL sp 0 (sts.take i) ++ l0.map (fun p => (((rk : Nat) : Int), p))) ++ [(((rk : Nat) : Int), (s0, a0))] = qs ++ [(((rk : Nat) : Int), (st, acc))] := by
              rw [← eq, q1, List.map_append, List.append_assoc]
              rfl
            obtain ⟨f1, f2⟩ := List.append_inj' fin rfl
            have f2 := (List.cons.inj f2).1
            injection f2 with _ f2
            injection f2 with fs fa
            have bd := (spl_in (w := sp) (ws.take j) [] f0 f0 (by show f0 = f0 + ((0 : Nat) : Int); omega) (s0, a0) (by rw [q1]; exact List.mem_append.mpr (.inr (List.mem_singleton.mpr rfl)))).1
            have al : acc.length ≤ 1000 := by
              rw [← fs] at es
              have bd : f0 ≤ s0 := bd
              omega
            refine ⟨_, rfl, _, rfl, _, _, rfl, rfl, .inl ⟨_, rfl, _, rfl, a, _, 1, _, rfl, rfl, .inr ha3, rfl, _, _, rfl, rfl, sp0, rfl, _, rfl, ite2 (fun c => ?_) (fun c => ?_)⟩⟩
            · have c' : (f0 + ((j : Nat) : Int)) % sp = 0 := by
                have := of_decide_eq_true c
                injection this
              refine app _ (zs ++ [.ref u]) (qs ++ [(((rk : Nat) : Int), (st, acc))]) (fun _ _ h => h) hl3 (paired_app (parts_same hd_in pz) (.cons ⟨u, d, rfl, hu, hdd⟩ .nil)) ?_ ?_
              · have := paired_len pz
                have e2 := congrArg List.length eq
                rw [List.length_append, List.length_append, List.length_map] at e2
                have sl := spl_len (w := sp) (ws.take j) [] f0 f0
                rw [lj] at sl
                have pl := paired_len p2
                rw [List.length_append]
                have : qs.length + 1 = (ptsL sp 0 (sts.take i)).length + (spl sp f0 [] f0 (ws.take j)).length := e2.symm
                have w24 : ws.length ≤ 24 := by omega
                show zs.length + 1 ≤ 5000
                omega
              · rw [sn]
                unfold snocS
                rw [if_pos c', List.map_append, ← List.append_assoc, eq]
                rfl
            · have c' : ¬ (f0 + ((j : Nat) : Int)) % sp = 0 := fun e => c (by show decide (V.int ((f0 + ((j : Nat) : Int)) % sp) = V.int 0) = true; rw [e]; decide)
              refine ⟨rfl, s3, m3, zs, u, d, qs, st, acc, hl3, pz, hu, hdd, nd, nd2, al, ?_, es⟩
              rw [sn]
              unfold snocS
              rw [if_neg c', q1, List.dropLast_concat, List.getLast?_concat, ← f1, List.map_append, ← List.append_assoc, fs, fa]
              rfl
        · rintro σ' H4 ⟨rfl, s4, m4, zs, u, d, qs, st, acc, hl4, pz, hu, hdd, nd, nd2, al, eq, es⟩
          have hb4 : H4 b = some (.tup (ivs ws)) := by
            have := m4 _ _ hb
            rw [upd_ne (fun e => by rw [e, h2] at hb; cases hb)] at this
            exact this
          have hz' : (ivs ws)[j]? = some (.int z) := by
            unfold ivs
            rw [List.getElem?_map, hz]
            rfl
          refine ⟨_, rfl, _, rfl, b, _, _, _, rfl, rfl, .inr hb4, atI_nat hz', ?_⟩
          refine ⟨_, rfl, _, rfl, l, _, -1, _, rfl, rfl, .inl hl4, at_end, u, _, 1, _, rfl, rfl, .inr hu, rfl, _, rfl, _, rfl, _, _, rfl, rfl, d, _, rfl, DPut.k (k := .inl (f0 + ((j : Nat) : Int))) hdd (szl (by rw [rowsI_len]; omega)), ?_⟩
          have nw : (Sum.inl (f0 + ((j : Nat) : Int)) : L2.Key) ∉ (rowsI st acc).map (·.1) := fun mm => by
            have := rowsI_key acc st _ mm
            omega
          rw [putK_snoc nw, ← es, ← rowsI_snoc acc st z]
          have off : ∀ {c : Addr} {o : HO}, H4 c = some o → (∀ rr, o ≠ .dK rr) → c ≠ d := fun e n zz => by
            rw [zz, hdd] at e
            exact n _ (Option.some.inj e).symm
          have nld : l ≠ d := off hl4 (fun r z => by cases z)
          refine ⟨_, rfl, same_mut s4 nd, fun c o e => ?_, .inr ⟨by omega, zs, u, d, qs, st, acc ++ [z], by rw [upd_ne nld]; exact hl4, ?_, by rw [upd_ne (off hu (fun r z => by cases z))]; exact hu, upd_same, nd, nd2, eq, by rw [List.length_append]; show st + ((acc.length + 1 : Nat) : Int) = _; omega⟩⟩
          · have nc : c ≠ d := fun zz => by rw [zz, nd2] at e; cases e
            have := m4 c o e
            by_cases cl : c = l
            · rw [cl] at this ⊢
              rw [upd_same] at this ⊢
              exact this
            · rw [upd_ne cl] at this ⊢
              rw [upd_ne nc]
              exact this
          · exact parts_same (fun c o e => by
              have nc : c ≠ d := fun zz => by rw [zz, show Af.hd d H4 d = none from if_pos rfl] at e; cases e
              rw [hd_ne nc, upd_ne nc]
              exact hd_in c o e) pz
      · rintro σ' H3 ⟨v6, rfl, s3, m3, ⟨e, _⟩ | ⟨_, zs, u, d, qs, st, acc, hl3, pz, hu, hd, nd, nd2, eq, es⟩⟩
        · exact absurd (List.eq_nil_of_length_eq_zero e) o2
        · rw [List.take_length] at eq
          have ep' : ptsL sp 0 (sts.take (i + 1)) = qs ++ [(((rk : Nat) : Int), (st, acc))] := by rw [ep]; exact eq
          refine ⟨some (.ref t), some (.int f0), some (.ref b), v6, zs ++ [.ref u], ?_, s3, hl3, ?_, ?_⟩
          · rw [en']
          · rw [ep']
            exact paired_app (parts_same hd_in pz) (.cons ⟨u, d, rfl, hu, hd⟩ .nil)
          · have : (zs ++ [V.ref u]).length = (ptsL sp 0 (sts.take (i + 1))).length := by
              rw [ep', List.length_append, List.length_append, paired_len pz]
              rfl
            rw [this, ep, List.length_append]
            have h25 := oneQ_len (w := sp) (k := rk) (s := some (f0, ws)) ⟨o1, o2, o3, o4⟩
            have := paired_len p2
            omega
  · rintro σ' H2 ⟨v3, v4, v5, v6, ys, rfl, s2, h2, p2, yl⟩
    have e : xs.length = sts.length := paired_len hst
    rw [e, List.take_length] at p2
    exact ⟨_, rfl, k l H2 ys s2 n1 h2 p2⟩
end
end Af

set_option Elab.async false
set_option linter.all false
set_option maxRecDepth 100000
set_option maxHeartbeats 8000000
namespace Af
open PySem L2
abbrev s_l_over : Stmt := top 46
abbrev N_l_over : List Str := ["_law_state_here", "_law_part", "_law_k"]
theorem sc_l_over : FnScope N_l_over ["_law_state_here", "_law_part"] (defScope s_l_over) := ⟨rfl, rfl, rfl, by decide +kernel, rfl, by decide +kernel, by decide +kernel⟩

theorem rowsI_val : ∀ (ws : List Int) (st k : Int), valV (rowsI st ws) (.inl k) = if st ≤ k ∧ k < st + (ws.length : Int) then some (.int (ws.getD (k - st).toNat 0)) else none
  | [], st, k => by
    rw [if_neg (by show ¬ (st ≤ k ∧ k < st + ((0 : Nat) : Int)); omega)]
    rfl
  | x :: r, st, k => by
    by_cases c : st = k
    · subst c
      rw [if_pos (by rw [List.length_cons]; omega), show st - st = 0 by omega]
      exact valV_pos rfl
    · have ne : ¬ (Sum.inl st : L2.Key) = .inl k := fun e => c (by injection e)
      show valV ((.inl st, .int x) :: rowsI (st + 1) r) (.inl k) = _
      rw [valV_neg ne, rowsI_val r (st + 1) k]
      by_cases d : st ≤ k ∧ k < st + ((x :: r).length : Int)
      · rw [if_pos d, if_pos (by rw [List.length_cons] at d; omega), show (k - st).toNat = (k - (st + 1)).toNat + 1 by omega]
        rfl
      · rw [if_neg d, if_neg (by rw [List.length_cons] at d; omega)]
theorem behF_get {c : List Int} {p : Int × (Int × List Int)} (h0 : 0 ≤ p.2.1) (h1 : p.2.1 + (p.2.2.length : Int) ≤ (c.length : Int)) {k : Nat} (hk : k < c.length) :
    (behF c p)[k]? = some (if p.2.1 ≤ (k : Int) ∧ (k : Int) < p.2.1 + (p.2.2.length : Int) then p.2.2.getD ((k : Int) - p.2.1).toNat 0 else c.getD k 0) := by
  obtain ⟨ix, st, ws⟩ := p
  obtain ⟨n, rfl⟩ := Int.eq_ofNat_of_zero_le h0
  have h1 : (n : Int) + (ws.length : Int) ≤ (c.length : Int) := h1
  show (c.take ((n : Int)).toNat ++ ws ++ c.drop (((n : Int)).toNat + ws.length))[k]? = some (if (n : Int) ≤ (k : Int) ∧ (k : Int) < (n : Int) + (ws.length : Int) then ws.getD ((k : Int) - (n : Int)).toNat 0 else c.getD k 0)
  rw [Int.toNat_natCast]
  have lt : (c.take n).length = n := by rw [List.length_take]; omega
  by_cases c1 : k < n
  · rw [if_neg (by omega), List.append_assoc, List.getElem?_append_left (by omega), List.getElem?_take, if_pos c1, List.getElem?_eq_getElem hk, List.getD_eq_getElem?_getD, List.getElem?_eq_getElem hk]
    rfl
  · by_cases c2 : k < n + ws.length
    · rw [if_pos (by omega), List.append_assoc, List.getElem?_append_right (by omega), lt, List.getElem?_append_left (by omega), show ((k : Int) - (n : Int)).toNat = k - n by omega, List.getD_eq_getElem?_getD, List.getElem?_eq_getElem (show k - n < ws.length by omega)]
      rfl
    · rw [if_neg (by omega), List.getElem?_append_right (by rw [List.length_append, lt]; omega), List.length_append, lt, List.getElem?_drop, show n + ws.length + (k - (n + ws.length)) = k by omega, List.getElem?_eq_getElem hk, List.getD_eq_getElem?_getD, List.getElem?_eq_getElem hk]
      rfl
theorem behF_len' {c : List Int} {p : Int × (Int × List Int)} (h0 : 0 ≤ p.2.1) (h1 : p.2.1 + (p.2.2.length : Int) ≤ (c.length : Int)) : (behF c p).length = c.length := by
  unfold behF
  rw [List.length_append, List.length_append, List.length_take, List.length_drop]
  omega
def sp_lover : Sp := fun vs H Q _ => ∃ (ca : Addr) (x : V) (cs : List Int) (p : Prt), vs = [.ref ca, x] ∧ H ca = some (.tup (ivs cs)) ∧ PartV H x p ∧ 0 ≤ p.2.1 ∧ p.2.1 + (p.2.2.length : Int) ≤ (cs.length : Int) ∧ cs.length ≤ 1000 ∧ ∀ t H', Same H H' → H' t = some (.tup (ivs (behF cs p))) → Q (.ref t) H'
section
variable {P : Program} {w : World} {K : PySem.W.Frag} {mg : Str → Option Value} {base : Heap}
theorem ok_lover {f : Addr} {fd : FuncData} (F : Fun K "_law_over" "_law_over" s_l_over f fd) (T : Txt mg) : FnOk P w K mg base CX0 1 f fd ["_law_state_here", "_law_part"] sp_lover := by
  refine F.ok sc_l_over (fun vs H Q E h => ?_) (fun cdv A outer s H vs Q E hr h => ?_)
  · obtain ⟨_, _, _, _, rfl, _⟩ := h
    rfl
  obtain ⟨ca, x, cs, p, rfl, hc, ⟨t, d, rfl, ht, hd⟩, p0, p1, cl, k⟩ := h
  refine ⟨_, (pss_one (ps_ret (pe_callTy call_tuple' (by rfl) T.tuple (by decide +kernel) (pa_cons (pe_lc (own := [("_law_k", 2)]) (g := (gName 2)) (tt := tYes) rfl sc_l_over.nd (pi_range1 rfl T.range (pa_cons (pe_callB call_len' (by rfl) T.len (by decide +kernel) (pa_cons (pv 0) pa_nil)) pa_nil)) (blkOk_by (own := [("_law_k", 2)]) (N := N_l_over) (sc := defScope s_l_over) (by decide +kernel)) (fun _ _ _ _ _ => pg_name (i := 2) sc_l_over.nd rfl (Or.inl rfl)) (fun _ _ _ _ _ => pts_nil) (fun _ _ _ _ _ => (pe_ifExp (pt_cmp (pc_din hr.u1 (pv 2) (pe_ix ix_seq' (pv 1) pe_int (fun _ _ => rfl)))) (pe_dget hr.u1 (pe_ix ix_seq' (pv 1) pe_int (fun _ _ => rfl)) (pv 2) (fun _ _ => rfl)) (pe_ix ix_seq' (pv 0) (pv 2) (fun _ _ => rfl))))) pa_nil)))), ?_⟩
  refine ⟨_, rfl, ca, _, rfl, .inr hc, _, rfl, by rw [ivs_len]; omega, by rw [ivs_len]; omega, fun D hD => ?_⟩
  rw [ivs_len]
  refine lc_range (lo := 0) (fun i H' => Same H H' ∧ H' D = some (.lst (ivs ((behF cs p).take i)))) ?_ ?_ ?_
  · exact ⟨same_new hD, upd_same⟩
  · rintro i H' hi ⟨s1, h1⟩
    have hi' : i < cs.length := hi
    have bg := behF_get p0 p1 hi'
    have tk : (behF cs p).take (i + 1) = (behF cs p).take i ++ [if p.2.1 ≤ (i : Int) ∧ (i : Int) < p.2.1 + (p.2.2.length : Int) then p.2.2.getD ((i : Int) - p.2.1).toNat 0 else cs.getD i 0] := by rw [List.take_succ, bg]; rfl
    have ei : (0 : Int) + ((i : Nat) : Int) = ((i : Nat) : Int) := Int.zero_add _
    rw [ei]
    have lt : ((behF cs p).take i).length ≤ 1000 := by rw [List.length_take]; omega
    have fin : ∀ z, z = (if p.2.1 ≤ (i : Int) ∧ (i : Int) < p.2.1 + (p.2.2.length : Int) then p.2.2.getD ((i : Int) - p.2.1).toNat 0 else cs.getD i 0) → ∃ acc, H' D = some (.lst acc) ∧ acc.length < sizeLine ∧ Same H (upd H' D (.lst (acc ++ [V.int z]))) ∧ (upd H' D (.lst (acc ++ [V.int z]))) D = some (.lst (ivs ((behF cs p).take (i + 1)))) := fun z ez => by
      refine ⟨_, h1, szl (by rw [ivs_len]; omega), same_mut s1 hD, ?_⟩
      rw [upd_same, tk, ez]
      unfold ivs
      rw [List.map_append]
      rfl
    refine ⟨rfl, _, rfl, _, rfl, t, _, 1, _, rfl, rfl, .inr (s1 _ _ ht), rfl, d, _, rfl, .inl ⟨_, .inl ((i : Nat) : Int), .inl (s1 _ _ hd), rfl, rfl⟩, _, rfl, ?_⟩
    rw [rowsI_val]
    by_cases c : p.2.1 ≤ (i : Int) ∧ (i : Int) < p.2.1 + (p.2.2.length : Int)
    · rw [if_pos c]
      refine iteT ⟨_, rfl, t, _, 1, _, rfl, rfl, .inr (s1 _ _ ht), rfl, _, rfl, d, .int (p.2.2.getD ((i : Int) - p.2.1).toNat 0), rfl, .inl ⟨_, .inl ((i : Nat) : Int), .inl (s1 _ _ hd), rfl, by rw [rowsI_val, if_pos c]⟩, ?_⟩
      exact fin _ (by rw [if_pos c])
    · rw [if_neg c]
      refine iteF ⟨_, rfl, _, rfl, ca, _, _, _, rfl, rfl, .inr (s1 _ _ hc), atI_nat (ivs_at hi'), ?_⟩
      exact fin _ (by rw [if_neg c])
  · rintro H1 ⟨s1, h1⟩
    have e : (behF cs p).take ((cs.length : Nat) : Int).toNat = behF cs p := by
      rw [Int.toNat_natCast, ← behF_len' p0 p1, List.take_length]
    rw [e] at h1
    exact ⟨D, _, rfl, .inl h1, fun t2 H2 s2 h2 => k t2 H2 (s1.trans s2) h2⟩
end
end Af

set_option Elab.async false
set_option linter.all false
set_option maxRecDepth 100000
set_option maxHeartbeats 8000000
namespace Af
open PySem L2
abbrev s_l_is_early : Stmt := top 47
abbrev N_l_is_early : List Str := ["_law_parts_here", "_law_arrived", "_law_k", "_law_j"]
theorem sc_l_is_early : FnScope N_l_is_early ["_law_parts_here", "_law_arrived", "_law_k"] (defScope s_l_is_early) := ⟨rfl, rfl, rfl, by decide +kernel, rfl, by decide +kernel, by decide +kernel⟩

theorem pts_pre (w : Int) : ∀ (sts : List Stp) (i k : Nat) (pre : List Int), pre.length = i → (allP w i sts).map (fun p => (((pre ++ eps k sts)[p.1.toNat]?).getD 0, p.2)) = ptsL w k sts
  | [], _, _, _, _ => rfl
  | s :: r, i, k, pre, h => by
    show (oneP w i s ++ allP w (i + 1) r).map (fun p => (((pre ++ ((k : Int) :: eps (if s.isNone = true then k + 1 else k) r))[p.1.toNat]?).getD 0, p.2)) = oneQ w k s ++ ptsL w (if s.isNone = true then k + 1 else k) r
    rw [List.map_append]
    have ih := pts_pre w r (i + 1) (if s.isNone = true then k + 1 else k) (pre ++ [(k : Int)]) (by rw [List.length_append, h]; rfl)
    rw [List.append_assoc] at ih
    rw [← ih]
    congr 1
    cases s with
    | none => rfl
    | some fw =>
      obtain ⟨f, ws⟩ := fw
      show ((spl w f [] f ws).map fun p => ((i : Int), p)).map _ = (spl w f [] f ws).map fun p => ((k : Int), p)
      rw [List.map_map]
      refine List.map_congr_left fun p _ => ?_
      show (((pre ++ ((k : Int) :: eps _ r))[((i : Int)).toNat]?).getD 0, p) = ((k : Int), p)
      rw [Int.toNat_natCast, List.getElem?_append_right (by omega), show i - pre.length = 0 by omega]
      rfl
/-- the law's parts are the pieces, with their epochs -/
theorem pts_all (w : Int) (sts : List Stp) : ptsL w 0 sts = (allP w 0 sts).map fun p => (((eps 0 sts)[p.1.toNat]?).getD 0, p.2) := (pts_pre w sts 0 0 [] rfl).symm
theorem pts_rk (pl : Pl) : (ptsL pl.w 0 pl.sts).map (·.1) = rkP pl := by
  rw [pts_all, List.map_map]
  rfl
theorem pts_snd (w : Int) (sts : List Stp) : (ptsL w 0 sts).map (·.2) = (allP w 0 sts).map (·.2) := by
  rw [pts_all, List.map_map]
  rfl
def rkA (ps : List Prt) (k : Nat) : Int := (ps[k]?.map (·.1)).getD 0
def earlyB (ps : List Prt) (fs : List Nat) (k : Nat) : Bool := !(((List.range ps.length).filter fun j => decide (rkA ps j < rkA ps k)).all fun j => fs.contains j)
theorem flat_nvs (fs : List Nat) : (nvs fs).all flatV = true := flat_ivs _
def sp_early (K : PySem.W.Frag) : Sp := fun vs H Q _ => ∃ (l f : Addr) (k : Nat) (xs : List V) (ps : List Prt) (fs : List Nat), vs = [.ref l, .ref f, .int (k : Nat)] ∧ H l = some (.lst xs) ∧ Paired (PartV H) xs ps ∧ H f = some (.lst (nvs fs)) ∧ k < ps.length ∧ ps.length ≤ 1000 ∧ ∀ H', Same H H' → Q (.bl (earlyB ps fs k)) H'
section
variable {P : Program} {w : World} {K : PySem.W.Frag} {mg : Str → Option Value} {base : Heap}
theorem ok_early {f : Addr} {fd : FuncData} (F : Fun K "_law_is_early" "_law_is_early" s_l_is_early f fd) (T : Txt mg) : FnOk P w K mg base CX0 1 f fd ["_law_parts_here", "_law_arrived", "_law_k"] (sp_early K) := by
  refine F.ok sc_l_is_early (fun vs H Q E h => ?_) (fun cdv A outer s H vs Q E hr h => ?_)
  · obtain ⟨_, _, _, _, _, _, rfl, _⟩ := h
    rfl
  obtain ⟨l, fa, kk, xs, ps, fs, rfl, hl, hp, hf, kl, pl, k⟩ := h
  refine ⟨_, (pss_one (ps_ret (pe_not (pe_callB (cr_all rfl) (by rfl) T.all (by decide +kernel) (pa_cons (pe_lc (own := [("_law_j", 3)]) (g := (gName 3)) rfl sc_l_is_early.nd (pi_range1 rfl T.range (pa_cons (pe_callB call_len' (by rfl) T.len (by decide +kernel) (pa_cons (pv 0) pa_nil)) pa_nil)) (blkOk_by (own := [("_law_j", 3)]) (N := N_l_is_early) (sc := defScope s_l_is_early) (by decide +kernel)) (fun _ _ _ _ _ => pg_name (i := 3) sc_l_is_early.nd rfl (Or.inl rfl)) (fun _ _ _ _ _ => (pts_one (pt_cmpR op_lt (pe_ix ix_seq' (pe_ix ix_seq' (pv 0) (pv 3) (fun _ _ => rfl)) pe_int (fun _ _ => rfl)) (pe_ix ix_seq' (pe_ix ix_seq' (pv 0) (pv 2) (fun _ _ => rfl)) pe_int (fun _ _ => rfl)) (nomark _)))) (fun _ _ _ _ _ => (pe_cmpR (op_inK (K := K) rfl) (pv 3) (pv 1) (by rfl)))) pa_nil))))), ?_⟩
  have xl : xs.length = ps.length := paired_len hp
  refine ⟨_, rfl, l, _, rfl, .inl hl, _, rfl, by omega, by omega, fun D hD => ?_⟩
  rw [xl]
  have at_ : ∀ j : Nat, j < ps.length → ∃ t d q, xs[j]? = some (.ref t) ∧ H t = some (.tup [.int (rkA ps j), .ref d]) ∧ ps[j]? = some q := fun j hj => by
    obtain ⟨x, hx⟩ : ∃ x, xs[j]? = some x := ⟨_, List.getElem?_eq_getElem (by omega)⟩
    obtain ⟨p, hp', t, d, e, h1, _⟩ := Af.paired_get hp hx
    refine ⟨t, d, p, by rw [hx, e], ?_, hp'⟩
    unfold rkA
    rw [hp']
    exact h1
  obtain ⟨tk, dk, qk, xk, hk, _⟩ := at_ kk kl
  refine lc_range (lo := 0) (fun i H' => Same H H' ∧ H' D = some (.lst ((((List.range i).filter fun j => decide (rkA ps j < rkA ps kk)).map fun j => fs.contains j).map V.bl))) ?_ ?_ ?_
  · exact ⟨same_new hD, upd_same⟩
  · rintro i H' hi ⟨s1, h1⟩
    have hi' : i < ps.length := hi
    obtain ⟨ti, di, qi, xi, hti, _⟩ := at_ i hi'
    have ei : (0 : Int) + ((i : Nat) : Int) = ((i : Nat) : Int) := Int.zero_add _
    rw [ei]
    have hl1 := s1 _ _ hl
    refine ⟨rfl, _, rfl, _, rfl, l, _, _, _, rfl, rfl, .inl hl1, atI_nat xi, ti, _, 0, _, rfl, rfl, .inr (s1 _ _ hti), rfl, _, rfl, _, rfl, l, _, _, _, rfl, rfl, .inl hl1, atI_nat xk, tk, _, 0, _, rfl, rfl, .inr (s1 _ _ hk), rfl, _, _, rfl, rfl, _, rfl, ?_⟩
    rw [List.range_succ, List.filter_append, List.filter_cons]
    have lf : ((List.range i).filter fun j => decide (rkA ps j < rkA ps kk)).length ≤ 1000 := by
      have := List.length_filter_le (fun j => decide (rkA ps j < rkA ps kk)) (List.range i)
      rw [List.length_range] at this
      omega
    refine ite2 (fun c => ?_) (fun c => ?_)
    · rw [if_pos c]
      refine ⟨_, rfl, _, rfl, fa, _, rfl, .inl (SqL.of (s1 _ _ hf)), rfl, flat_nvs _, _, h1, szl (by rw [List.length_map, List.length_map]; omega), same_mut s1 hD, ?_⟩
      rw [upd_same, in_nvs, List.filter_nil, List.map_append, List.map_append]
      rfl
    · rw [if_neg c, List.filter_nil, List.append_nil]
      exact ⟨s1, h1⟩
  · rintro H1 ⟨s1, h1⟩
    refine ⟨D, _, rfl, SqL.of h1, ?_⟩
    rw [all_mapP, Int.toNat_natCast]
    exact ⟨_, rfl, k H1 s1⟩
end
end Af

set_option Elab.async false
set_option linter.all false
set_option maxRecDepth 100000
set_option maxHeartbeats 8000000
namespace Af
open PySem L2
abbrev s_l_held : Stmt := top 53
abbrev N_l_held : List Str := ["_law_page_here", "_law_state_here", "_law_parts_here", "_law_k"]
theorem sc_l_held : FnScope N_l_held ["_law_page_here"] (defScope s_l_held) := ⟨rfl, rfl, rfl, by decide +kernel, rfl, by decide +kernel, by decide +kernel⟩

abbrev s_l_nexts : Stmt := top 54
abbrev N_l_nexts : List Str := ["_law_page_here", "_law_parts_here", "_law_rest", "_law_k"]
theorem sc_l_nexts : FnScope N_l_nexts ["_law_page_here"] (defScope s_l_nexts) := ⟨rfl, rfl, rfl, by decide +kernel, rfl, by decide +kernel, by decide +kernel⟩

theorem OkS.wide {n m : Nat} {s : Stp} (o : OkS n s) (h : n ≤ m) : OkS m s := by
  cases s with
  | none => trivial
  | some fw =>
    obtain ⟨f, ws⟩ := fw
    obtain ⟨o1, o2, o3, o4⟩ := o
    exact ⟨o1, o2, by omega, o4⟩
theorem pts_fit {w : Int} {n : Nat} {sts : List Stp} (o : ∀ x ∈ sts, OkS n x) : ∀ p ∈ ptsL w 0 sts, 0 ≤ p.2.1 ∧ p.2.1 + (p.2.2.length : Int) ≤ (n : Int) := fun p hp => by
  rw [pts_all] at hp
  obtain ⟨q, hq, rfl⟩ := List.mem_map.mp hp
  exact allP_fit (w := w) (i := 0) o q hq
theorem pts_len (w : Int) (sts : List Stp) : (ptsL w 0 sts).length = (allP w 0 sts).length := by
  rw [pts_all, List.length_map]
/-- a page: the plan and what came -/
def PageV (H : Hp) (x : V) (pl : Pl) (fs : List Nat) : Prop := ∃ pg rows tr ca sa f xs, x = .ref pg ∧ H pg = some (.dK rows) ∧ valV rows (.inr "plan") = some (.ref tr) ∧ valV rows (.inr "came") = some (.ref f) ∧ H tr = some (.tup [.ref ca, .int pl.w, .ref sa]) ∧ H ca = some (.tup (ivs pl.cs)) ∧ H sa = some (.lst xs) ∧ Paired (StepV H) xs pl.sts ∧ H f = some (.lst (nvs fs)) ∧ rows.length ≤ 10
/-- a page, its two lists named -/
def PageX (H : Hp) (x : V) (pl : Pl) (fs : List Nat) (sa f : Addr) : Prop := ∃ pg rows tr ca xs, x = .ref pg ∧ H pg = some (.dK rows) ∧ valV rows (.inr "plan") = some (.ref tr) ∧ valV rows (.inr "came") = some (.ref f) ∧ H tr = some (.tup [.ref ca, .int pl.w, .ref sa]) ∧ H ca = some (.tup (ivs pl.cs)) ∧ H sa = some (.lst xs) ∧ Paired (StepV H) xs pl.sts ∧ H f = some (.lst (nvs fs)) ∧ rows.length ≤ 10
theorem PageX.v {H : Hp} {x : V} {pl : Pl} {fs : List Nat} {sa f : Addr} (h : PageX H x pl fs sa f) : PageV H x pl fs := by
  obtain ⟨pg, rows, tr, ca, xs, h⟩ := h
  exact ⟨pg, rows, tr, ca, sa, f, xs, h⟩
theorem PageV.x {H : Hp} {x : V} {pl : Pl} {fs : List Nat} (h : PageV H x pl fs) : ∃ sa f, PageX H x pl fs sa f := by
  obtain ⟨pg, rows, tr, ca, sa, f, xs, h⟩ := h
  exact ⟨sa, f, pg, rows, tr, ca, xs, h⟩
theorem PageX.same {H H' : Hp} {x : V} {pl : Pl} {fs : List Nat} {sa f : Addr} (h : PageX H x pl fs sa f) (m : Same H H') : PageX H' x pl fs sa f := by
  obtain ⟨pg, rows, tr, ca, xs, e, hpg, vp, vc, htr, hca, hsa, hst, hf, r10⟩ := h
  exact ⟨pg, rows, tr, ca, xs, e, m _ _ hpg, vp, vc, m _ _ htr, m _ _ hca, m _ _ hsa, steps_same m hst, m _ _ hf, r10⟩
theorem PageX.hl {R : Addr} {L : List Addr} {H : Hp} {x : V} {pl : Pl} {fs : List Nat} {sa f : Addr} (h : PageX H x pl fs sa f) (lk : Lok R L H) (n1 : sa ∉ L) (n2 : f ∉ L) : PageX (Af.hl L H) x pl fs sa f := by
  obtain ⟨pg, rows, tr, ca, xs, e, hpg, vp, vc, htr, hca, hsa, hst, hf, r10⟩ := h
  have np : pg ∉ L := fun m => by
    rcases lk pg m with ⟨ys, z⟩ | ⟨dx, gs, z⟩ <;> (rw [hpg] at z; cases z)
  exact ⟨pg, rows, tr, ca, xs, e, (hl_at np).trans hpg, vp, vc, (hl_at (lk.tup htr)).trans htr, (hl_at (lk.tup hca)).trans hca, (hl_at n1).trans hsa, L2.Paired.mapP hst fun _ _ z => step_hl lk z, (hl_at n2).trans hf, r10⟩
def overL (ps : List Prt) (c : List Int) (fs : List Nat) : List Int := fs.foldl (fun c k => behF c (ps.getD k (0, (0, [])))) c
theorem overL_snoc (ps : List Prt) (c : List Int) (fs : List Nat) (k : Nat) : overL ps c (fs ++ [k]) = behF (overL ps c fs) (ps.getD k (0, (0, []))) := by
  unfold overL
  rw [List.foldl_append]
  rfl
theorem overL_len {ps : List Prt} {n : Nat} (hb : ∀ p ∈ ps, 0 ≤ p.2.1 ∧ p.2.1 + (p.2.2.length : Int) ≤ (n : Int)) : ∀ (fs : List Nat) (c : List Int), c.length = n → (∀ k ∈ fs, k < ps.length) → (overL ps c fs).length = n
  | [], c, h, _ => h
  | k :: fs, c, h, hk => by
    have kl := hk k List.mem_cons_self
    have m : ps.getD k (0, (0, [])) ∈ ps := by
      rw [List.getD_eq_getElem?_getD, List.getElem?_eq_getElem kl]
      exact List.getElem_mem kl
    have b := hb _ m
    exact overL_len hb fs (behF c (ps.getD k (0, (0, [])))) (by rw [behF_len' b.1 (by omega)]; exact h) fun j hj => hk j (List.mem_cons_of_mem _ hj)
def heldP (pl : Pl) (fs : List Nat) : List Int := overL (ptsL pl.w 0 pl.sts) pl.cs fs
def sp_lheld : Sp := fun vs H Q _ => ∃ (x : V) (pl : Pl) (fs : List Nat), vs = [x] ∧ PageV H x pl fs ∧ OkP pl ∧ (∀ k ∈ fs, k < (ptsL pl.w 0 pl.sts).length) ∧ ∀ t H', Same H H' → H' t = some (.tup (ivs (heldP pl fs))) → Q (.ref t) H'
def nextL (ps : List Prt) (fs : List Nat) : List Nat := ((List.range ps.length).filter fun k => !fs.contains k).filter fun k => !earlyB ps fs k
def sp_lnexts : Sp := fun vs H Q _ => ∃ (x : V) (pl : Pl) (fs : List Nat), vs = [x] ∧ PageV H x pl fs ∧ OkP pl ∧ ∀ l H', Same H H' → H l = none → H' l = some (.lst (nvs (nextL (ptsL pl.w 0 pl.sts) fs))) → Q (.ref l) H'
section
variable {P : Program} {w : World} {K : PySem.W.Frag} {mg : Str → Option Value} {base : Heap}
theorem ok_lheld {f : Addr} {fd : FuncData} (F : Fun K "_law_held" "_law_held" s_l_held f fd) (T : Txt mg) (c_l_parts : Cal P w K mg base 1 "_law_parts" ["_law_triple"] (sp_lparts K)) (c_l_over : Cal P w K mg base 1 "_law_over" ["_law_state_here", "_law_part"] sp_lover) : FnOk P w K mg base CX0 2 f fd ["_law_page_here"] sp_lheld := by
  refine F.ok sc_l_held (fun vs H Q E h => ?_) (fun cdv A outer s H vs Q E hr h => ?_)
  · obtain ⟨_, _, _, rfl, _⟩ := h
    rfl
  obtain ⟨x, pl, fs, rfl, ⟨pg, rows, tr, ca, sa, fa, xs, rfl, hpg, vp, vc, htr, hca, hsa, hst, hf, -⟩, o, fk, k⟩ := h
  refine ⟨_, (pss_cons (ps_par (i := 1) (j := 2) rfl sc_l_held.nd rfl rfl (by decide) rfl rfl (pa_cons (pe_ix ix_seq' (pe_dget hr.u1 (pv 0) pe_str (fun _ _ => rfl)) pe_int (fun _ _ => rfl)) (pa_cons (pe_cal c_l_parts hr (pa_cons (pe_dget hr.u1 (pv 0) pe_str (fun _ _ => rfl)) pa_nil)) pa_nil)) (by rfl))
    (pss_cons (ps_for PassesOwn.never rfl (pi_list (pe_dget hr.u1 (pv 0) pe_str (fun _ _ => rfl))) (pg_name (i := 3) sc_l_held.nd rfl (Or.inl rfl))
      (pss_one (ps_set (i := 1) sc_l_held.nd rfl (Or.inl rfl) (pe_cal c_l_over hr (pa_cons (pv 1) (pa_cons (pe_ix ix_seq' (pv 2) (pv 3) (fun _ _ => rfl)) pa_nil))))))
    (pss_one (ps_ret (pv 1))))), ?_⟩
  have c24 := o.c24
  have gp : ∀ {G : Hp}, Same H G → DGet G pg (.str "plan") (some (.ref tr)) := fun s => .inl ⟨rows, .inr "plan", .inl (s _ _ hpg), rfl, vp.symm⟩
  have gc : ∀ {G : Hp}, Same H G → DGet G pg (.str "came") (some (.ref fa)) := fun s => .inl ⟨rows, .inr "came", .inl (s _ _ hpg), rfl, vc.symm⟩
  have xl : xs.length = pl.sts.length := paired_len hst
  have fit := pts_fit (w := pl.w) o.st
  refine ⟨_, rfl, pg, .ref tr, rfl, gp (Same.refl _), tr, _, 0, _, rfl, rfl, .inr htr, rfl, _, rfl, pg, .ref tr, rfl, gp (Same.refl _), ?_⟩
  refine ⟨tr, sa, ca, pl.w, xs, pl.sts, rfl, htr, hsa, hst, ?_, ?_, fun x hx => (o.st x hx).wide c24, fun l H1 ys s1 n1 h1 p1 => ⟨_, _, rfl, ?_⟩⟩
  · have := o.w1; omega
  · rw [xl]; have := o.sl; omega
  refine ⟨_, rfl, pg, .ref fa, rfl, gc s1, fa, rfl, ⟨_, SqL.of (s1 _ _ hf)⟩, for_list (K := K) (a := fa) (xs := nvs fs) (fun i σ' H' => ∃ t v3, σ' = [some (.ref pg), some (.ref t), some (.ref l), v3] ∧ Same H1 H' ∧ H' t = some (.tup (ivs (overL (ptsL pl.w 0 pl.sts) pl.cs (fs.take i))))) ?_ ?_ ?_ ?_⟩
  · exact ⟨ca, _, rfl, Same.refl _, s1 _ _ hca⟩
  · rintro i σ' H' _ ⟨_, _, _, s2, _⟩
    exact SqL.of (s2 _ _ (s1 _ _ hf))
  · rintro i y σ' H2 hy ⟨t, v3, rfl, s2, ht⟩
    obtain ⟨kk, hk, rfl⟩ : ∃ kk : Nat, fs[i]? = some kk ∧ y = .int (kk : Nat) := by
      unfold nvs ivs at hy
      rw [List.getElem?_map, List.getElem?_map] at hy
      cases e : fs[i]? with
      | none => rw [e] at hy; cases hy
      | some n => rw [e] at hy; exact ⟨n, rfl, (Option.some.inj hy).symm⟩
    have tk : fs.take (i + 1) = fs.take i ++ [kk] := by rw [List.take_succ, hk]; rfl
    have kl := fk kk (List.mem_of_getElem? hk)
    obtain ⟨yv, hyv⟩ : ∃ yv, ys[kk]? = some yv := ⟨_, List.getElem?_eq_getElem (by rw [paired_len p1]; exact kl)⟩
    obtain ⟨p, hp, pv'⟩ := Af.paired_get p1 hyv
    have ep : (ptsL pl.w 0 pl.sts).getD kk (0, (0, [])) = p := by rw [List.getD_eq_getElem?_getD, hp]; rfl
    have b := fit p (List.mem_of_getElem? hp)
    have ln := overL_len fit (fs.take i) pl.cs rfl fun j hj => fk j (List.mem_of_mem_take hj)
    have pv2 : PartV H2 yv p := by
      obtain ⟨tt, dd, e, e1, e2⟩ := pv'
      exact ⟨tt, dd, e, s2 _ _ e1, s2 _ _ e2⟩
    refine ⟨_, rfl, _, rfl, _, rfl, l, ys, _, yv, rfl, rfl, .inl (s2 _ _ h1), atI_nat hyv, t, yv, _, p, rfl, ht, pv2, b.1, by omega, by omega, fun t3 H3 s3 h3 => ⟨t3, _, rfl, s2.trans s3, ?_⟩⟩
    rw [tk, overL_snoc, ep]
    exact h3
  · rintro σ' H2 ⟨t, v3, rfl, s2, ht⟩
    rw [nvs_len, List.take_length] at ht
    exact ⟨_, rfl, k t H2 (s1.trans s2) ht⟩
theorem ok_lnexts {f : Addr} {fd : FuncData} (F : Fun K "_law_nexts" "_law_nexts" s_l_nexts f fd) (T : Txt mg) (c_l_parts : Cal P w K mg base 1 "_law_parts" ["_law_triple"] (sp_lparts K)) (c_l_is_early : Cal P w K mg base 1 "_law_is_early" ["_law_parts_here", "_law_arrived", "_law_k"] (sp_early K)) : FnOk P w K mg base CX0 2 f fd ["_law_page_here"] sp_lnexts := by
  refine F.ok sc_l_nexts (fun vs H Q E h => ?_) (fun cdv A outer s H vs Q E hr h => ?_)
  · obtain ⟨_, _, _, rfl, _⟩ := h
    rfl
  obtain ⟨x, pl, fs, rfl, ⟨pg, rows, tr, ca, sa, fa, xs, rfl, hpg, vp, vc, htr, hca, hsa, hst, hf, -⟩, o, k⟩ := h
  refine ⟨_, (pss_cons (ps_set (i := 1) sc_l_nexts.nd rfl (Or.inr rfl) (pe_cal c_l_parts hr (pa_cons (pe_dget hr.u1 (pv 0) pe_str (fun _ _ => rfl)) pa_nil)))
    (pss_cons (ps_setLc (i := 2) (own := [("_law_k", 3)]) (g := (gName 3)) rfl sc_l_nexts.nd rfl rfl (sw_true rfl rfl rfl (by decide +kernel)) (pi_range1 rfl T.range (pa_cons (pe_callB call_len' (by rfl) T.len (by decide +kernel) (pa_cons (pv 1) pa_nil)) pa_nil)) (blkOk_by (own := [("_law_k", 3)]) (N := N_l_nexts) (sc := defScope s_l_nexts) (by decide +kernel)) (fun _ _ _ _ _ => pg_name (i := 3) sc_l_nexts.nd rfl (Or.inl rfl)) (fun _ _ _ _ _ => (pts_one (pt_cmpR (op_notInK (K := K) rfl) (pv 3) (pe_dget hr.u1 (pv 0) pe_str (fun _ _ => rfl)) (by rfl)))) (fun _ _ _ _ _ => (pv 3)))
    (pss_one (ps_ret (pe_lc (own := [("_law_k", 3)]) (g := (gName 3)) rfl sc_l_nexts.nd (pi_list (pv 2)) (blkOk_by (own := [("_law_k", 3)]) (N := N_l_nexts) (sc := defScope s_l_nexts) (by decide +kernel)) (fun _ _ _ _ _ => pg_name (i := 3) sc_l_nexts.nd rfl (Or.inl rfl)) (fun _ _ _ _ _ => (pts_one (pt_not (pt_val (pe_cal c_l_is_early hr (pa_cons (pv 1) (pa_cons (pe_dget hr.u1 (pv 0) pe_str (fun _ _ => rfl)) (pa_cons (pv 3) pa_nil)))))))) (fun _ _ _ _ _ => (pv 3))))))), ?_⟩
  have c24 := o.c24
  have gp : ∀ {G : Hp}, Same H G → DGet G pg (.str "plan") (some (.ref tr)) := fun s => .inl ⟨rows, .inr "plan", .inl (s _ _ hpg), rfl, vp.symm⟩
  have gc : ∀ {G : Hp}, Same H G → DGet G pg (.str "came") (some (.ref fa)) := fun s => .inl ⟨rows, .inr "came", .inl (s _ _ hpg), rfl, vc.symm⟩
  have xl : xs.length = pl.sts.length := paired_len hst
  refine ⟨_, rfl, pg, .ref tr, rfl, gp (Same.refl _), ?_⟩
  refine ⟨tr, sa, ca, pl.w, xs, pl.sts, rfl, htr, hsa, hst, ?_, ?_, fun x hx => (o.st x hx).wide c24, fun l H1 ys s1 n1 h1 p1 => ?_⟩
  · have := o.w1; omega
  · rw [xl]; have := o.sl; omega
  have yl : ys.length = (ptsL pl.w 0 pl.sts).length := paired_len p1
  have pc : (ptsL pl.w 0 pl.sts).length ≤ 40 := by rw [pts_len]; exact o.pc
  refine ⟨_, rfl, l, _, rfl, .inl h1, _, rfl, by omega, by omega, fun D hD => lc_range (lo := 0) (fun i H' => Same H1 H' ∧ H' D = some (.lst (nvs ((List.range i).filter fun k => !fs.contains k)))) ?_ ?_ ?_⟩
  · exact ⟨same_new hD, upd_same⟩
  · rintro i H2 hi ⟨s2, h2⟩
    have ei : (0 : Int) + ((i : Nat) : Int) = ((i : Nat) : Int) := Int.zero_add _
    rw [ei]
    have S2 := s1.trans s2
    have lf : ((List.range i).filter fun k => !fs.contains k).length ≤ 40 := by
      have := List.length_filter_le (fun k => !fs.contains k) (List.range i)
      rw [List.length_range] at this
      omega
    refine ⟨rfl, _, rfl, _, rfl, pg, .ref fa, rfl, gc S2, fa, _, rfl, .inl (SqL.of (S2 _ _ hf)), rfl, flat_nvs _, _, rfl, ?_⟩
    rw [if_pos rfl, in_nvs, List.range_succ, List.filter_append, List.filter_cons]
    refine ite2 (fun c => ?_) (fun c => ?_)
    · rw [if_pos c]
      refine ⟨_, rfl, _, h2, szl (by rw [nvs_len]; omega), same_mut s2 hD, ?_⟩
      rw [upd_same, List.filter_nil, nvs_app]
      rfl
    · rw [if_neg c, List.filter_nil, List.append_nil]
      exact ⟨s2, h2⟩
  · rintro H2 ⟨s2, h2⟩
    rw [yl, Int.toNat_natCast] at h2
    have S2 := s1.trans s2
    obtain ⟨rs, ers⟩ : ∃ rs, rs = (List.range (ptsL pl.w 0 pl.sts).length).filter fun k => !fs.contains k := ⟨_, rfl⟩
    have rk : ∀ k ∈ rs, k < (ptsL pl.w 0 pl.sts).length := fun k hk => by rw [ers] at hk; exact List.mem_range.mp (List.mem_filter.mp hk).1
    have rl : rs.length ≤ 40 := by
      rw [ers]
      have := List.length_filter_le (fun k => !fs.contains k) (List.range (ptsL pl.w 0 pl.sts).length)
      rw [List.length_range] at this
      omega
    rw [← ers] at h2
    have p2 : Paired (PartV H2) ys (ptsL pl.w 0 pl.sts) := parts_same s2 p1
    refine ⟨_, rfl, D, rfl, ⟨_, SqL.of h2⟩, fun D2 hD2 => lc_list (K := K) (a := D) (xs := nvs rs) (fun i H' => Same H2 H' ∧ H' D2 = some (.lst (nvs ((rs.take i).filter fun k => !earlyB (ptsL pl.w 0 pl.sts) fs k)))) ?_ ?_ ?_ ?_⟩
    · exact ⟨same_new hD2, upd_same⟩
    · rintro i H' _ ⟨s3, _⟩
      exact SqL.of (s3 _ _ h2)
    · rintro i y H3 hy ⟨s3, h3⟩
      obtain ⟨kk, hk, rfl⟩ : ∃ kk : Nat, rs[i]? = some kk ∧ y = .int (kk : Nat) := by
        unfold nvs ivs at hy
        rw [List.getElem?_map, List.getElem?_map] at hy
        cases e : rs[i]? with
        | none => rw [e] at hy; cases hy
        | some n => rw [e] at hy; exact ⟨n, rfl, (Option.some.inj hy).symm⟩
      have tk : rs.take (i + 1) = rs.take i ++ [kk] := by rw [List.take_succ, hk]; rfl
      have S3 := S2.trans s3
      have lf : ((rs.take i).filter fun k => !earlyB (ptsL pl.w 0 pl.sts) fs k).length ≤ 40 := Nat.le_trans (List.length_filter_le _ _) (by rw [List.length_take]; omega)
      refine ⟨rfl, _, rfl, _, rfl, pg, .ref fa, rfl, gc S3, _, rfl, l, fa, kk, ys, _, fs, rfl, s3 _ _ (s2 _ _ h1), parts_same s3 p2, S3 _ _ hf, rk kk (List.mem_of_getElem? hk), by omega, fun H4 s4 => ⟨_, rfl, ?_⟩⟩
      rw [tk, List.filter_append, List.filter_cons]
      refine ite2 (fun c => ?_) (fun c => ?_)
      · rw [if_pos c]
        refine ⟨_, rfl, _, s4 _ _ h3, szl (by rw [nvs_len]; omega), same_mut (s3.trans s4) hD2, ?_⟩
        rw [upd_same, List.filter_nil, nvs_app]
        rfl
      · rw [if_neg c, List.filter_nil, List.append_nil]
        exact ⟨s3.trans s4, s4 _ _ h3⟩
    · rintro H3 ⟨s3, h3⟩
      rw [nvs_len, List.take_length] at h3
      exact k D2 H3 (S2.trans s3) (S2.free hD2) (by unfold nextL; rw [← ers]; exact h3)
end
end Af

set_option Elab.async false
set_option linter.all false
set_option maxRecDepth 100000
set_option maxHeartbeats 8000000
namespace Af
open PySem L2
abbrev s_l_is_below : Stmt := top 51
abbrev N_l_is_below : List Str := ["_law_thing", "_law_under"]
theorem sc_l_is_below : FnScope N_l_is_below ["_law_thing", "_law_under"] (defScope s_l_is_below) := ⟨rfl, rfl, rfl, by decide +kernel, rfl, by decide +kernel, by decide +kernel⟩

section
variable {P : Program} {w : World} {K : PySem.W.Frag} {mg : Str → Option Value} {base : Heap}
theorem ok_below {f : Addr} {fd : FuncData} (F : Fun K "_law_is_below" "_law_is_below" s_l_is_below f fd) (T : Txt mg) : FnOk P w K mg base CX0 1 f fd ["_law_thing", "_law_under"] (sp_is_index K) := by
  refine F.ok sc_l_is_below (fun vs H Q E h => ?_) (fun cdv A outer s H vs Q E hr h => ?_)
  · obtain ⟨_, _, _, rfl, _⟩ := h
    rfl
  obtain ⟨x, m, n, rfl, t, k⟩ := h
  refine ⟨_, (pss_one (ps_ret (pe_and (pe_callB call_isi' (by rfl) T.isinstance (by decide +kernel) (pa_cons (pv 0) (pa_cons (pe_bltn (v := .ty "int") (by rfl) T.int (by decide +kernel) rfl) pa_nil))) (pe_and (pe_not (pe_callB call_isi' (by rfl) T.isinstance (by decide +kernel) (pa_cons (pv 0) (pa_cons (pe_bltn (v := .ty "bool") (by rfl) T.bool (by decide +kernel) rfl) pa_nil)))) (pe_one (pe_chain op_le op_lt pe_int (pv 0) (pv 1))))))), ?_⟩
  refine ⟨_, rfl, x, n, "int", rfl, t, by decide, _, rfl, ?_⟩
  cases c : isB n "int" with
  | true =>
    refine ⟨_, rfl, x, n, "bool", rfl, t, by decide, _, rfl, _, rfl, ?_⟩
    rw [int_one n t.mem c]
    by_cases c : n = "int"
    · rw [decide_eq_true c]
      obtain ⟨i, rfl⟩ := ty_int t c
      refine ⟨_, rfl, _, _, rfl, rfl, _, rfl, ?_⟩
      have e : idxB m (.int i) = (decide (0 ≤ i) && decide (i < m)) := rfl
      rw [e] at k
      cases c2 : decide ((0 : Int) ≤ i) with
      | true =>
        rw [c2] at k
        exact ⟨_, rfl, _, _, rfl, rfl, k⟩
      | false =>
        rw [c2] at k
        exact k
    · rw [decide_eq_false c]
      rw [idx_not (no_int t c)] at k
      exact k
  | false =>
    have q := of_decide_eq_false (int_two n t.mem c)
    rw [idx_not (no_int t q)] at k
    exact k
end
end Af

set_option Elab.async false
set_option linter.all false
set_option maxRecDepth 100000
set_option maxHeartbeats 8000000
namespace Af
open PySem L2
abbrev s_l_longer : Stmt := top 55
abbrev N_l_longer : List Str := ["_law_page_here", "_law_step_here", "_law_longer_here"]
theorem sc_l_longer : FnScope N_l_longer ["_law_page_here", "_law_step_here"] (defScope s_l_longer) := ⟨rfl, rfl, rfl, by decide +kernel, rfl, by decide +kernel, by decide +kernel⟩

theorem any_of_val : ∀ {rows : List (L2.Key × V)} {k : L2.Key} {v : V}, valV rows k = some v → (rows.any fun kv => decide (kv.1 = k)) = true
  | [], _, _, h => by cases h
  | p :: r, k, v, h => by
    rw [List.any_cons]
    by_cases c : p.1 = k
    · rw [decide_eq_true c]
      rfl
    · rw [valV_neg c] at h
      rw [any_of_val h, Bool.or_true]
def lenOk (pl : Pl) : Prop := pl.sts.length ≤ 40 ∧ (allP pl.w 0 pl.sts).length ≤ 40
def addS (pl : Pl) (st : Stp) : Pl := ⟨pl.cs, pl.w, pl.sts ++ [st]⟩
def sp_longer : Sp := fun vs H Q _ => ∃ (pg sa fa : Addr) (y : V) (pl : Pl) (fs : List Nat) (st : Stp), vs = [.ref pg, y] ∧ PageX H (.ref pg) pl fs sa fa ∧ OkP pl ∧ StepV H y st ∧ OkS pl.cs.length st ∧
  (¬ lenOk (addS pl st) → ∀ H', Same H H' → Q (.str "many") H') ∧ (lenOk (addS pl st) → ∀ H' sa', Fr [pg] H H' → H sa' = none → PageX H' (.ref pg) (addS pl st) fs sa' fa → Q (.str "") H')
section
variable {P : Program} {w : World} {K : PySem.W.Frag} {mg : Str → Option Value} {base : Heap}
theorem ok_longer {f : Addr} {fd : FuncData} (F : Fun K "_law_longer" "_law_longer" s_l_longer f fd) (T : Txt mg) (c_l_parts : Cal P w K mg base 1 "_law_parts" ["_law_triple"] (sp_lparts K)) : FnOk P w K mg base CX0 2 f fd ["_law_page_here", "_law_step_here"] sp_longer := by
  refine F.ok sc_l_longer (fun vs H Q E h => ?_) (fun cdv A outer s H vs Q E hr h => ?_)
  · obtain ⟨_, _, _, _, _, _, _, rfl, _⟩ := h
    rfl
  obtain ⟨pg, sa, fa, y, pl, fs, st, rfl, ⟨pg', rows, tr, ca, xs, epg, hpg, vp, vc, htr, hca, hsa, hst, hf, r10⟩, o, sv, os, kN, kY⟩ := h
  cases epg
  refine ⟨_, (pss_cons (ps_set (i := 2) sc_l_longer.nd rfl (Or.inl rfl) (pe_op op_catT' (pe_slice sl_tup' (pe_dget hr.u1 (pv 0) pe_str (fun _ _ => rfl)) po_none (po_some pe_int)) (pe_tup' (pa_cons (pe_op op_cat' (pe_ix ix_seq' (pe_dget hr.u1 (pv 0) pe_str (fun _ _ => rfl)) pe_int (fun _ _ => rfl)) (pe_lst' (pa_cons (pv 1) pa_nil))) pa_nil))))
    (pss_cons (ps_cut (ps_if (PW.pt (pw_or (pt_cmpR op_gt (pe_callB call_len' (by rfl) T.len (by decide +kernel) (pa_cons (pe_ix ix_seq' (pv 2) pe_int (fun _ _ => rfl)) pa_nil)) pe_int (nomark _)) (pw_or1 (pt_cmpR op_gt (pe_callB call_len' (by rfl) T.len (by decide +kernel) (pa_cons (pe_cal c_l_parts hr (pa_cons (pv 2) pa_nil)) pa_nil)) pe_int (nomark _)))))
      (pss_one (ps_ret pe_str))
      pss_nil))
    (pss_cons (ps_asg (pv 2) (pg_sub (pv 0) pe_str (set_dict hr.u1)))
    (pss_one (ps_ret pe_str))))), ?_⟩
  have gp : ∀ {G : Hp}, Same H G → DGet G pg (.str "plan") (some (.ref tr)) := fun s => .inl ⟨rows, .inr "plan", .inl (s _ _ hpg), rfl, vp.symm⟩
  have xl : xs.length = pl.sts.length := paired_len hst
  have sl := o.sl
  have c24 := o.c24
  have w1 := o.w1
  refine ⟨_, rfl, pg, .ref tr, rfl, gp (Same.refl _), _, rfl, tr, _, rfl, htr, fun t1 H1 s1 h1 => ?_⟩
  have h1 : H1 t1 = some (.tup [.ref ca, .int pl.w]) := h1
  refine ⟨_, rfl, pg, .ref tr, rfl, gp s1, tr, _, 2, _, rfl, rfl, .inr (s1 _ _ htr), rfl, _, rfl, szr, fun l2 H2 n2 s2 h2 => ⟨sa, l2, _, _, rfl, rfl, s2 _ _ (s1 _ _ hsa), h2, sz (by simp only [List.length_cons, List.length_nil]; omega), fun l3 H3 n3 s3 h3 => ⟨szr, fun t4 H4 n4 s4 h4 => ⟨t1, t4, _, _, rfl, rfl, s4 _ _ (s3 _ _ (s2 _ _ h1)), h4, sz (by simp), fun tr2 H5 s5 h5 => ?_⟩⟩⟩⟩
  have S5 : Same H H5 := s1.trans (s2.trans (s3.trans (s4.trans s5)))
  have h35 := s5 _ _ (s4 _ _ h3)
  have st5 : Paired (StepV H5) (xs ++ [y]) (pl.sts ++ [st]) := paired_app (steps_same S5 hst) (.cons (by
    have := steps_same S5 (Paired.cons sv Paired.nil : Paired (StepV H) [y] [st])
    cases this with
    | cons h _ => exact h) .nil)
  have h5 : H5 tr2 = some (.tup [.ref ca, .int pl.w, .ref l3]) := h5
  have l40 : (xs ++ [y]).length = (pl.sts ++ [st]).length := paired_len st5
  refine ⟨fun σ' H' => σ' = [some (.ref pg), some y, some (.ref tr2)] ∧ lenOk (addS pl st) ∧ Same H5 H', ?_, ?_⟩
  · refine ⟨_, rfl, tr2, _, 2, _, rfl, rfl, .inr h5, rfl, l3, _, rfl, .inl h35, _, _, rfl, rfl, _, rfl, ?_⟩
    by_cases c : (pl.sts ++ [st]).length ≤ 40
    · refine iteF' (decide_eq_false (by rw [l40]; omega)) ?_
      refine ⟨_, rfl, tr2, l3, ca, pl.w, _, pl.sts ++ [st], rfl, h5, h35, st5, by omega, by omega, fun x hx => ?_, fun l H6 ys s6 n6 h6 p6 => ⟨l, _, rfl, .inl h6, _, _, rfl, rfl, _, rfl, ?_⟩⟩
      · rcases List.mem_append.mp hx with hx | hx
        · exact (o.st x hx).wide c24
        · rw [List.mem_singleton.mp hx]
          exact os.wide c24
      · have yl : ys.length = (allP pl.w 0 (pl.sts ++ [st])).length := by rw [paired_len p6, pts_len]
        by_cases c2 : (allP pl.w 0 (pl.sts ++ [st])).length ≤ 40
        · exact iteF' (decide_eq_false (by rw [yl]; omega)) ⟨rfl, ⟨c, c2⟩, s6⟩
        · exact iteT' (decide_eq_true (by rw [yl]; omega)) (kN (fun z => c2 z.2) H6 (S5.trans s6))
    · exact iteT' (decide_eq_true (by rw [l40]; omega)) (kN (fun z => c z.1) H5 S5)
  · rintro σ' H6 ⟨rfl, lo, s6⟩
    have S6 := S5.trans s6
    have hp6 := S6 _ _ hpg
    refine ⟨_, rfl, _, rfl, pg, _, rfl, DPut.k (k := .inr "plan") hp6 (szl (by omega)), ?_⟩
    have off : ∀ {c : Addr} {u : HO}, H6 c = some u → (∀ r, u ≠ .dK r) → c ≠ pg := fun e n zz => by
      rw [zz, hp6] at e
      exact n _ (Option.some.inj e).symm
    have up : ∀ {c : Addr} {u : HO}, H6 c = some u → (∀ r, u ≠ .dK r) → (upd H6 pg (.dK (putK rows (.inr "plan") (.ref tr2)))) c = some u := fun e n => by rw [upd_ne (off e n)]; exact e
    refine kY lo _ l3 ((Fr.of S6).upd (by simp)) (s1.free (s2.free n3)) ⟨pg, _, tr2, ca, _, rfl, upd_same, by rw [valV_put, if_pos rfl], by rw [valV_put, if_neg (by decide), vc], up (s6 _ _ h5) (fun r z => by cases z), up (S6 _ _ hca) (fun r z => by cases z), up (s6 _ _ h35) (fun r z => by cases z), ?_, up (S6 _ _ hf) (fun r z => by cases z), ?_⟩
    · refine L2.Paired.mapP (steps_same s6 st5) fun x p h => ?_
      cases p with
      | none => exact h
      | some fw =>
        obtain ⟨f0, ws⟩ := fw
        obtain ⟨a0, b0, e, h1, h2⟩ := h
        exact ⟨a0, b0, e, up h1 (fun r z => by cases z), up h2 (fun r z => by cases z)⟩
    · unfold putK
      rw [if_pos (any_of_val vp), List.length_map]
      exact r10
end
end Af

set_option Elab.async false
set_option linter.all false
set_option maxRecDepth 100000
set_option maxHeartbeats 8000000
namespace Af
open PySem L2
abbrev s_l_is_step : Stmt := top 52
abbrev N_l_is_step : List Str := ["_law_cells", "_law_first", "_law_row", "_law_one"]
theorem sc_l_is_step : FnScope N_l_is_step ["_law_cells", "_law_first", "_law_row"] (defScope s_l_is_step) := ⟨rfl, rfl, rfl, by decide +kernel, rfl, by decide +kernel, by decide +kernel⟩

def sp_listep : Sp := fun vs H Q _ => ∃ (n : Nat) (f0 : Int) (b : Addr) (ws : List Int), vs = [.int (n : Nat), .int f0, .ref b] ∧ H b = some (.tup (ivs ws)) ∧ OkS n (some (f0, ws)) ∧ n ≤ 24 ∧ ∀ H', Same H H' → Q (.bl true) H'
section
variable {P : Program} {w : World} {K : PySem.W.Frag} {mg : Str → Option Value} {base : Heap}
theorem ty_i {H : Hp} {z : Int} : Ty K H (.int z) "int" := ⟨.int z, by decide, fun _ _ _ e => by cases e⟩
theorem ok_listep {f : Addr} {fd : FuncData} (F : Fun K "_law_is_step" "_law_is_step" s_l_is_step f fd) (T : Txt mg) (c_l_is_below : Cal P w K mg base 1 "_law_is_below" ["_law_thing", "_law_under"] (sp_is_index K)) : FnOk P w K mg base CX0 2 f fd ["_law_cells", "_law_first", "_law_row"] sp_listep := by
  refine F.ok sc_l_is_step (fun vs H Q E h => ?_) (fun cdv A outer s H vs Q E hr h => ?_)
  · obtain ⟨_, _, _, _, rfl, _⟩ := h
    rfl
  obtain ⟨n, f0, b, ws, rfl, hb, ⟨o1, o2, o3, o4⟩, n24, k⟩ := h
  refine ⟨_, (pss_cons (ps_cut (ps_if (PW.pt (pw_or (pt_not (pt_val (pe_cal c_l_is_below hr (pa_cons (pv 1) (pa_cons (pv 0) pa_nil))))) (pw_or (pt_not (pt_val (pe_callB call_isi' (by rfl) T.isinstance (by decide +kernel) (pa_cons (pv 2) (pa_cons (pe_bltn (v := .ty "tuple") (by rfl) T.tuple (by decide +kernel) rfl) pa_nil))))) (pw_or1 (pt_cmpR (op_eqD hr.units) (pv 2) (pe_tup' pa_nil) (nomark _))))))
      (pss_one (ps_ret pe_bl))
      pss_nil))
    (pss_one (ps_ret (pe_and (pe_callB (cr_all rfl) (by rfl) T.all (by decide +kernel) (pa_cons (pe_lc (own := [("_law_one", 3)]) (g := (gName 3)) (tt := tYes) rfl sc_l_is_step.nd (pi_tup (pv 2)) (blkOk_by (own := [("_law_one", 3)]) (N := N_l_is_step) (sc := defScope s_l_is_step) (by decide +kernel)) (fun _ _ _ _ _ => pg_name (i := 3) sc_l_is_step.nd rfl (Or.inl rfl)) (fun _ _ _ _ _ => pts_nil) (fun _ _ _ _ _ => (pe_cal c_l_is_below hr (pa_cons (pv 3) (pa_cons pe_int pa_nil))))) pa_nil)) (pe_one (pe_cmpR op_le (pe_op op_add (pv 1) (pe_callB call_len' (by rfl) T.len (by decide +kernel) (pa_cons (pv 2) pa_nil))) (pv 0) (nomark _))))))), ?_⟩
  have lw : 0 < ws.length := List.length_pos_iff.mpr o2
  have i1 : idxB (n : Int) (.int f0) = true := by
    show (decide ((0 : Int) ≤ f0) && decide (f0 < (n : Int))) = true
    rw [decide_eq_true o1, decide_eq_true (by omega)]
    rfl
  refine ⟨fun σ' H' => σ' = [some (.int (n : Nat)), some (.int f0), some (.ref b), none] ∧ Same H H', ?_, ?_⟩
  · refine ⟨_, rfl, _, rfl, _, _, "int", rfl, ty_i, ?_⟩
    rw [i1]
    have tt : Ty K H (.ref b) "tuple" := ⟨.tup hb, by decide, fun b o u e z => by cases e; rw [hb] at z; cases z⟩
    refine ⟨_, rfl, _, rfl, .ref b, "tuple", "tuple", rfl, tt, by decide, _, rfl, ?_⟩
    rw [show isB "tuple" "tuple" = true by decide]
    refine ⟨_, rfl, szr, fun t0 H1 n1 s1 h1 => ⟨.tuple (dvs ws), .tuple [], .tup (SqT.of (s1 _ _ hb)) (dp_ints ws), .tup (SqT.of h1) .nil, sh_ints ws, rfl, _, rfl, ?_⟩⟩
    have e : PyData.eqv (.tuple (dvs ws)) (.tuple []) = false := by
      cases ws with
      | nil => exact absurd rfl o2
      | cons _ _ => rfl
    rw [e]
    exact iteF ⟨rfl, s1⟩
  · rintro _ H1 ⟨rfl, s1⟩
    refine ⟨_, rfl, b, rfl, ⟨_, SqT.of (s1 _ _ hb)⟩, fun D hD => lc_tup (K := K) (a := b) (xs := ivs ws) (fun i H' => Same H1 H' ∧ H' D = some (.lst (List.replicate i (.bl true)))) ?_ ?_ ?_ ?_⟩
    · exact ⟨same_new hD, upd_same⟩
    · rintro i H' _ ⟨s2, _⟩
      exact SqT.of (s2 _ _ (s1 _ _ hb))
    · rintro i y H2 hy ⟨s2, h2⟩
      have il : i < ws.length := by have := (List.getElem?_eq_some_iff.mp hy).1; rw [ivs_len] at this; exact this
      have ey : y = .int ws[i] := Option.some.inj (hy.symm.trans (by unfold ivs; rw [List.getElem?_map, List.getElem?_eq_getElem il]; rfl))
      subst ey
      have bz := o4 ws[i] (List.getElem_mem il)
      have e : idxB 8 (.int ws[i]) = true := by
        show (decide ((0 : Int) ≤ ws[i]) && decide (ws[i] < 8)) = true
        rw [decide_eq_true bz.1, decide_eq_true bz.2]
        rfl
      refine ⟨rfl, _, rfl, _, _, "int", rfl, ty_i, ?_⟩
      rw [e]
      refine ⟨_, h2, szl (by rw [List.length_replicate]; omega), same_mut s2 hD, ?_⟩
      rw [upd_same, List.replicate_succ']
    · rintro H2 ⟨s2, h2⟩
      have S2 := s1.trans s2
      refine ⟨D, List.replicate ws.length true, rfl, SqL.of (by rw [h2, ivs_len, List.map_replicate]), ?_⟩
      rw [show (List.replicate ws.length true).all id = true from List.all_eq_true.mpr fun x hx => (List.mem_replicate.mp hx).2]
      refine ⟨_, rfl, ?_⟩
      refine ⟨_, rfl, _, rfl, b, _, rfl, .inr (S2 _ _ hb), _, _, rfl, rfl, _, rfl, _, _, rfl, rfl, ?_⟩
      rw [ivs_len]
      have e : decide (f0 + ((ws.length : Nat) : Int) ≤ ((n : Nat) : Int)) = true := decide_eq_true o3
      have q := k H2 S2
      rw [← e] at q
      exact q
end
end Af

set_option Elab.async false
set_option linter.all false
set_option maxRecDepth 100000
set_option maxHeartbeats 4000000
namespace Af
open PySem L2
/-! what a state holds is what the law's page holds -/
def HeldI (s : Sv) : Prop := s.held = heldP s.pl s.came
theorem behF_snd {c : List Int} {p q : Prt} (h : p.2 = q.2) : behF c p = behF c q := by unfold behF; rw [h]
theorem overL_app {ps qs : List Prt} : ∀ (fs : List Nat) (c : List Int), (∀ k ∈ fs, k < ps.length) → overL (ps ++ qs) c fs = overL ps c fs
  | [], _, _ => rfl
  | k :: fs, c, h => by
    have kl := h k List.mem_cons_self
    show overL (ps ++ qs) (behF c ((ps ++ qs).getD k (0, (0, [])))) fs = overL ps (behF c (ps.getD k (0, (0, [])))) fs
    rw [List.getD_eq_getElem?_getD, List.getElem?_append_left kl, ← List.getD_eq_getElem?_getD]
    exact overL_app fs _ fun j hj => h j (List.mem_cons_of_mem _ hj)
theorem held_los (s : Sv) : HeldI (losOut s) := rfl
theorem held_stp {s s' : Sv} {st : Stp} (o : OkSv s) (h : HeldI s) (e : stpOut s st = .inl s') : HeldI s' := by
  unfold stpOut at e
  split at e
  · cases e
    show s.held = overL (ptsL s.pl.w 0 (s.pl.sts ++ [st])) s.pl.cs s.came
    rw [ptsL_snoc, overL_app s.came s.pl.cs (fun k hk => by rw [pts_len]; exact o.lt k hk)]
    exact h
  · cases e
theorem held_arr {s s' : Sv} {z : Int} (h : HeldI s) (e : arrOut s z = .inl s') : HeldI s' := by
  unfold arrOut at e
  split at e
  · split at e
    · cases e
    · split at e
      · cases e
      · cases e
        rename_i hz _ _
        have zl : z.toNat < (pcs s).length := by omega
        show behF s.held (pcAt (pcs s) z.toNat) = overL (ptsL s.pl.w 0 s.pl.sts) s.pl.cs (s.came ++ [z.toNat])
        rw [overL_snoc, show s.held = overL (ptsL s.pl.w 0 s.pl.sts) s.pl.cs s.came from h]
        refine behF_snd ?_
        have e := congrArg (fun l => l[z.toNat]?) (pts_snd s.pl.w s.pl.sts)
        simp only [List.getElem?_map] at e
        have zl' : z.toNat < (allP s.pl.w 0 s.pl.sts).length := zl
        have zp : z.toNat < (ptsL s.pl.w 0 s.pl.sts).length := by rw [pts_len]; exact zl'
        rw [List.getElem?_eq_getElem zl', List.getElem?_eq_getElem zp] at e
        have e := Option.some.inj e
        show ((pcs s).getD z.toNat (0, (0, []))).2 = _
        rw [List.getD_eq_getElem?_getD, List.getD_eq_getElem?_getD, List.getElem?_eq_getElem zl, List.getElem?_eq_getElem zp]
        exact e.symm
  · cases e
end Af

set_option Elab.async false
set_option linter.all false
set_option maxRecDepth 100000
set_option maxHeartbeats 4000000
namespace Af
open PySem L2
/-! what came is closed below: then the law's early and the program's are the same -/
theorem nd_sub : ∀ (l l' : List Nat), l.Nodup → (∀ a ∈ l, a ∈ l') → l.length ≤ l'.length
  | [], _, _, _ => Nat.zero_le _
  | x :: r, l', nd, h => by
    obtain ⟨nx, nr⟩ := List.nodup_cons.mp nd
    have m : x ∈ l' := h x List.mem_cons_self
    have ih := nd_sub r (l'.erase x) nr fun a ha => (List.mem_erase_of_ne (fun e : a = x => nx (by rw [← e]; exact ha))).mpr (h a (List.mem_cons_of_mem _ ha))
    rw [List.length_erase_of_mem m] at ih
    have : 0 < l'.length := List.length_pos_of_mem m
    rw [List.length_cons]
    omega
def Dn (es : List Int) (fs : List Nat) : Prop := ∀ k ∈ fs, ∀ j, j < es.length → gI es j < gI es k → j ∈ fs
def Up (es : List Int) : Prop := ∀ i j, i ≤ j → j < es.length → gI es i ≤ gI es j
theorem early_same {es : List Int} {fs : List Nat} (up : Up es) (nd : fs.Nodup) (lt : ∀ k ∈ fs, k < es.length) (dn : Dn es fs) {z : Nat} (hz : z < es.length) (nz : z ∉ fs) :
    (∃ j, j < es.length ∧ gI es j < gI es z ∧ j ∉ fs) ↔ gI es z ≠ gI es fs.length := by
  have ml : fs.length < es.length := by
    have h := nd_len es.length (z :: fs) (List.nodup_cons.mpr ⟨nz, nd⟩) fun k hk => by
      rcases List.mem_cons.mp hk with rfl | hk
      · exact hz
      · exact lt k hk
    rw [List.length_cons] at h
    omega
  constructor
  · rintro ⟨j, hj, lj, nj⟩ e
    have all : ∀ k ∈ j :: fs, k < fs.length := fun k hk => by
      have lk : gI es k < gI es fs.length := by
        rcases List.mem_cons.mp hk with rfl | hk
        · omega
        · by_cases c : gI es j < gI es k
          · exact absurd (dn k hk j hj c) nj
          · omega
      have kl : k < es.length := by
        rcases List.mem_cons.mp hk with rfl | hk
        · exact hj
        · exact lt k hk
      by_cases c : k < fs.length
      · exact c
      · have := up fs.length k (by omega) kl
        omega
    have h := nd_len fs.length (j :: fs) (List.nodup_cons.mpr ⟨nj, nd⟩) all
    rw [List.length_cons] at h
    omega
  · intro ne
    refine Classical.byContradiction fun no => ?_
    have low : ∀ j, j < es.length → gI es j < gI es z → j ∈ fs := fun j hj lj => Classical.byContradiction fun nj => no ⟨j, hj, lj, nj⟩
    rcases Int.lt_or_lt_of_ne ne with c | c
    · have all : ∀ k ∈ z :: fs, k < fs.length := fun k hk => by
        have lk : gI es k ≤ gI es z := by
          rcases List.mem_cons.mp hk with rfl | hk
          · exact Int.le_refl _
          · by_cases d : gI es z < gI es k
            · exact absurd (dn k hk z hz d) nz
            · omega
        have kl : k < es.length := by
          rcases List.mem_cons.mp hk with rfl | hk
          · exact hz
          · exact lt k hk
        by_cases d : k < fs.length
        · exact d
        · have := up fs.length k (by omega) kl
          omega
      have h := nd_len fs.length (z :: fs) (List.nodup_cons.mpr ⟨nz, nd⟩) all
      rw [List.length_cons] at h
      omega
    · have h := nd_sub (List.range (fs.length + 1)) fs List.nodup_range fun j hj => by
        have hj := List.mem_range.mp hj
        have := up j fs.length (by omega) ml
        exact low j (by omega) (by omega)
      rw [List.length_range] at h
      omega
theorem rkA_gI (ps : List Prt) (k : Nat) : rkA ps k = gI (ps.map (·.1)) k := by
  unfold rkA gI
  rw [List.getD_eq_getElem?_getD, List.getElem?_map]
theorem earlyB_eq {ps : List Prt} {fs : List Nat} (up : Up (ps.map (·.1))) (nd : fs.Nodup) (lt : ∀ k ∈ fs, k < ps.length) (dn : Dn (ps.map (·.1)) fs) {z : Nat} (hz : z < ps.length) (nz : z ∉ fs) :
    earlyB ps fs z = decide (gI (ps.map (·.1)) z ≠ gI (ps.map (·.1)) fs.length) := by
  have l : (ps.map (·.1)).length = ps.length := List.length_map _
  have q := early_same up nd (by rw [l]; exact lt) dn (by rw [l]; exact hz) nz
  rw [Bool.eq_iff_iff, decide_eq_true_iff, ← q]
  unfold earlyB
  rw [Bool.not_eq_true', ← Bool.not_eq_true, List.all_eq_true]
  constructor
  · intro h
    refine Classical.byContradiction fun no => h fun j hj => ?_
    obtain ⟨h1, h2⟩ := List.mem_filter.mp hj
    have h1 := List.mem_range.mp h1
    have h2 := of_decide_eq_true h2
    rw [rkA_gI, rkA_gI] at h2
    rw [List.contains_iff_mem]
    exact Classical.byContradiction fun nj => no ⟨j, by rw [l]; exact h1, h2, nj⟩
  · rintro ⟨j, h1, h2, h3⟩ h
    rw [l] at h1
    have := h j (List.mem_filter.mpr ⟨List.mem_range.mpr h1, by rw [rkA_gI, rkA_gI]; exact decide_eq_true h2⟩)
    rw [List.contains_iff_mem] at this
    exact h3 this
/-! the ranks go up -/
theorem oneQ_rk {w : Int} {k : Nat} {s : Stp} : ∀ p ∈ oneQ w k s, p.1 = (k : Int) := fun p hp => by
  cases s with
  | none => cases hp
  | some fw =>
    obtain ⟨f, ws⟩ := fw
    obtain ⟨q, _, rfl⟩ := List.mem_map.mp hp
    rfl
theorem ptsL_ge {w : Int} : ∀ (sts : List Stp) (k : Nat), ∀ p ∈ ptsL w k sts, (k : Int) ≤ p.1
  | [], _, p, h => by cases h
  | s :: r, k, p, h => by
    rcases List.mem_append.mp (show p ∈ oneQ w k s ++ ptsL w (if s.isNone = true then k + 1 else k) r from h) with h | h
    · rw [oneQ_rk p h]
      exact Int.le_refl _
    · have := ptsL_ge r _ p h
      split at this <;> omega
theorem ptsL_up {w : Int} : ∀ (sts : List Stp) (k : Nat), (ptsL w k sts).Pairwise fun p q => p.1 ≤ q.1
  | [], _ => .nil
  | s :: r, k => by
    show (oneQ w k s ++ ptsL w (if s.isNone = true then k + 1 else k) r).Pairwise _
    rw [List.pairwise_append]
    refine ⟨?_, ptsL_up r _, fun p hp q hq => ?_⟩
    · refine List.Pairwise.imp_of_mem (R := fun _ _ => True) (fun {a b} ha hb _ => ?_) (List.pairwise_of_forall fun _ _ => trivial)
      rw [oneQ_rk a ha, oneQ_rk b hb]
      exact Int.le_refl _
    · have := ptsL_ge r _ q hq
      rw [oneQ_rk p hp]
      split at this <;> omega
theorem rkP_Up (pl : Pl) : Up (rkP pl) := fun i j ij hj => by
  rw [← pts_rk] at hj ⊢
  have hi : i < ((ptsL pl.w 0 pl.sts).map (·.1)).length := by omega
  unfold gI
  rw [List.getD_eq_getElem?_getD, List.getD_eq_getElem?_getD, List.getElem?_eq_getElem hi, List.getElem?_eq_getElem hj]
  have pw : ((ptsL pl.w 0 pl.sts).map (·.1)).Pairwise (· ≤ ·) := List.pairwise_map.mpr (ptsL_up _ _)
  rcases Nat.lt_or_ge i j with d | d
  · exact List.pairwise_iff_getElem.mp pw i j hi hj d
  · have e : i = j := by omega
    subst e
    exact Int.le_refl _
/-- what a page must say of a state -/
structure PgOk (s : Sv) : Prop where
  hd : HeldI s
  dn : Dn (rkP s.pl) s.came
  pl : OkP s.pl
  ok : OkSv s
theorem pg_early {s : Sv} (g : PgOk s) {z : Nat} (hz : z < (pcs s).length) (nz : z ∉ s.came) : earlyB (ptsL s.pl.w 0 s.pl.sts) s.came z = decide (gI (rkP s.pl) z ≠ gI (rkP s.pl) s.came.length) := by
  have l := pts_len s.pl.w s.pl.sts
  have r := pts_rk s.pl
  have q := earlyB_eq (ps := ptsL s.pl.w 0 s.pl.sts) (fs := s.came) (by rw [r]; exact rkP_Up _) g.ok.nd (fun k hk => by rw [l]; exact g.ok.lt k hk) (by rw [r]; exact g.dn) (z := z) (by rw [l]; exact hz) nz
  rw [q, r]
theorem pg_next {s : Sv} (g : PgOk s) : nextL (ptsL s.pl.w 0 s.pl.sts) s.came = rdy s := by
  have l := pts_len s.pl.w s.pl.sts
  have lr := rkP_len s.pl
  unfold nextL rdy rdyF
  rw [l, lr]
  have e : ((List.range (allP s.pl.w 0 s.pl.sts).length).filter fun k => !s.came.contains k).filter (fun k => !earlyB (ptsL s.pl.w 0 s.pl.sts) s.came k) = rdyL (rkP s.pl) s.came (allP s.pl.w 0 s.pl.sts).length := by
    unfold rdyL
    rw [List.filter_filter]
    refine List.filter_congr fun k hk => ?_
    have hk := List.mem_range.mp hk
    cases c : s.came.contains k with
    | true => simp
    | false =>
      have nk : k ∉ s.came := fun m => by rw [List.contains_iff_mem.mpr m] at c; cases c
      rw [pg_early g hk nk]
      simp
  rw [e]
  split
  · rename_i h
    unfold rdyL
    rw [List.filter_eq_nil_iff]
    intro k hk
    have hk := List.mem_range.mp hk
    have m : k ∈ s.came := Classical.byContradiction fun nk => by
      have := came_lt g.ok hk nk
      have e : (pcs s).length = (allP s.pl.w 0 s.pl.sts).length := rfl
      omega
    simp [m]
  · rfl
/-! each call keeps that -/
theorem rkP_snoc (pl : Pl) (st : Stp) : rkP (addS pl st) = rkP pl ++ (oneQ pl.w (nb pl.sts) st).map (·.1) := by
  rw [← pts_rk, ← pts_rk]
  show (ptsL pl.w 0 (pl.sts ++ [st])).map (·.1) = _
  rw [ptsL_snoc, List.map_append, Nat.zero_add]
theorem gI_app {a b : List Int} {k : Nat} (h : k < a.length) : gI (a ++ b) k = gI a k := by
  unfold gI
  rw [List.getD_eq_getElem?_getD, List.getD_eq_getElem?_getD, List.getElem?_append_left h]
theorem dn_stp {s : Sv} (g : PgOk s) (st : Stp) : Dn (rkP (addS s.pl st)) s.came := fun k hk j hj lj => by
  have kl : k < (rkP s.pl).length := by rw [rkP_len]; exact g.ok.lt k hk
  by_cases c : j < (rkP s.pl).length
  · rw [rkP_snoc, gI_app c, gI_app kl] at lj
    exact g.dn k hk j c lj
  · have := rkP_Up (addS s.pl st) k j (by omega) hj
    omega
theorem dn_arr {s : Sv} (g : PgOk s) {z : Nat} (hz : z < (pcs s).length) (nz : z ∉ s.came) (e : gI (rkP s.pl) z = gI (rkP s.pl) s.came.length) : Dn (rkP s.pl) (s.came ++ [z]) := fun k hk j hj lj => by
  rcases List.mem_append.mp hk with hk | hk
  · exact List.mem_append.mpr (.inl (g.dn k hk j hj lj))
  · rw [List.mem_singleton.mp hk] at lj
    have lr := rkP_len s.pl
    have q := early_same (rkP_Up s.pl) g.ok.nd (fun k hk => by rw [lr]; exact g.ok.lt k hk) g.dn (z := z) (by rw [lr]; exact hz) nz
    refine List.mem_append.mpr (.inl (Classical.byContradiction fun nj => ?_))
    exact q.mp ⟨j, hj, lj, nj⟩ e
theorem pg_stp {s s' : Sv} {st : Stp} (g : PgOk s) (o : OkS s.pl.cs.length st) (e : stpOut s st = .inl s') : PgOk s' := by
  have h := held_stp g.ok g.hd e
  unfold stpOut at e
  split at e
  · rename_i c
    cases e
    exact ⟨h, dn_stp g st, stp_pl g.pl o c, stp_ok g.ok⟩
  · cases e
theorem pg_arr {s s' : Sv} {z : Int} (g : PgOk s) (e : arrOut s z = .inl s') : PgOk s' := by
  have h := held_arr g.hd e
  unfold arrOut at e
  split at e
  · rename_i hz
    split at e
    · cases e
    · rename_i nc
      split at e
      · cases e
      · rename_i ne
        cases e
        have zl : z.toNat < (pcs s).length := by omega
        have nz : z.toNat ∉ s.came := fun m => nc (List.contains_iff_mem.mpr m)
        exact ⟨h, dn_arr g zl nz (Classical.byContradiction ne), g.pl, arr_ok g.pl g.ok zl nz⟩
  · cases e
theorem pg_los {s : Sv} (g : PgOk s) : PgOk (losOut s) := ⟨held_los s, (fun k hk => by cases hk), los_ok g.pl g.ok, beg_ok (los_ok g.pl g.ok)⟩
theorem pg_beg {pl : Pl} (o : OkP pl) : PgOk (begS pl) := ⟨rfl, (fun k hk => by cases hk), o, beg_ok o⟩
end Af

set_option Elab.async false
set_option linter.all false
set_option maxRecDepth 100000
set_option maxHeartbeats 4000000
namespace Af
open PySem PySem.Spec PyProof.Rows L2
open Sem (wp)
/-! a display of a dict that begins with another one's entries: {**a, k: v, ..} -/
section
variable {prog : Program} {w : World} {K : Type} [DecidableEq K] {knd : KeyKind prog w K} {A : Around} {E : Value → Shared → Prop} {s : Shared}
theorem dictPut_eq (d : Addr) (h : Int) (key v : Value) : True := trivial
theorem wpAny_dictPut {d : Addr} {kvs : List (K × Value)} {k : K} {key v : Value} {Q : Unit → Shared → Prop} (hkey : knd.is k key = true) (hm : s.heap.DictOf knd d kvs)
    (hQ : ∀ h', h'.DictOf knd d (stored kvs k v) → Heap.SameBut d s.heap h' → Q () { s with heap := h' })
    (hsz : kvs.length ≤ sizeLine) :
    wpAny (model prog w) A (dictPut d (knd.hash k) key v) Q E s := by
  obtain ⟨o, es, ep, ho, hc, hd, hk, hp, hn⟩ := hm
  have hes : es.size ≤ sizeLine := by
    have e1 := hp.length
    have e2 : es.toList.length = es.size := by simp
    omega
  unfold dictPut
  refine wpAny_bind (wpAny_dictFind_of hkey ho hd hk ?_)
  have hidx : (es.findIdx? fun e => knd.is k e.key) = kvs.findIdx? fun kv => decide (kv.1 = k) := by
    rw [← hp.findIdx k]; obtain ⟨l⟩ := es; simp
  cases hi : es.findIdx? fun e => knd.is k e.key with
  | some i =>
    refine wpAny_updateDict ho hd (hQ _ ⟨_, _, ep, Heap.get?_update_self _ ho (Obj.isFreed_of_dict (Obj.data_mapDict hd _)),
      hc.mapDict _, Obj.data_mapDict hd _, hk.modify _ _, ?_, ?_⟩ (Heap.SameBut.update ..))
    · rw [stored, if_pos (any_of_findIdx_some (hidx ▸ hi))]
      have hl : (es.toList.findIdx? fun e => knd.is k e.key) = some i := by rw [← hi]; obtain ⟨l⟩ := es; simp
      have := hp.modify hn hl v
      obtain ⟨l⟩ := es
      simpa using this
    · rw [stored, if_pos (any_of_findIdx_some (hidx ▸ hi)), keys_map_store]; exact hn
  | none =>
    have hnot : k ∉ kvs.map (·.1) := not_mem_of_findIdx_none (hidx ▸ hi)
    have hany : ¬ (kvs.any fun kv => decide (kv.1 = k)) = true := by
      rw [List.any_eq_true]; rintro ⟨kv, hkv, he⟩
      exact hnot (List.mem_map.mpr ⟨kv, hkv, of_decide_eq_true he⟩)
    refine wpAny_updateDictKeys (hz := hes) ho hd (hQ _ ⟨_, _, ep + 1, Heap.get?_update_self _ ho (Obj.isFreed_of_dict (Obj.data_mapDictKeys hd _)),
      hc.mapDictKeys _, Obj.data_mapDictKeys hd _, hk.push hkey _, ?_, ?_⟩ (Heap.SameBut.update ..))
    · rw [stored, if_neg hany]
      have := hp.append hkey (knd.hash k) v
      obtain ⟨l⟩ := es
      simpa using this
    · rw [stored, if_neg hany, List.map_append, List.nodup_append]
      refine ⟨hn, by simp, ?_⟩
      intro a ha b hb
      simp only [List.map_cons, List.map_nil, List.mem_singleton] at hb
      subst hb
      exact fun e => hnot (e ▸ ha)
theorem wpAny_mergeMapping {d a : Addr} {kvs more : List (K × Value)} {Q : Unit → Shared → Prop} (hdo : d ≠ a) (hoS : (a == sysModules) = false)
    (hd : s.heap.DictOf knd d kvs) (ho : s.heap.DictOf knd a more)
    (hQ : ∀ h', h'.DictOf knd d (merged kvs more) → h'.DictOf knd a more → Heap.SameBut d s.heap h' → Q () { s with heap := h' })
    (hsz : kvs.length + more.length ≤ sizeLine) :
    wpAny (model prog w) A (mergeMapping d (.ref a) false) Q E s := by
  obtain ⟨od, esd, epd, hod, hcd, hdd, hkd, hpd, hnd⟩ := id hd
  obtain ⟨oo, eso, epo, hoo, hco, hdo', hko, hpo, hno⟩ := id ho
  have hlen : more.length = eso.size := by rw [← hpo.length]; simp
  unfold mergeMapping
  refine wpAny_bind (wpAny_isInstance ho.typeIs isSubtype_dict_dict ?_)
  simp only [if_true]
  refine wpAny_bind (wpAny_specialOf ho.typeIs F.slot_dict_iter.lookup (wpAny_bind (wpAny_pure ?_)))
  simp only [beq_self_eq_true]
  rw [if_neg (by rw [hoS]; exact Bool.false_ne_true)]
  have loop : wpAny (model prog w) A (do
      let l ← dictEntries a
      let epoch ← dictEpoch a
      forIn (List.range l.size) PUnit.unit fun i (_ : PUnit) => (do
          let l' ← dictEntries a
          match l'[i]? with
            | some e => do
              holding [e.key, e.val] (dictPut d e.hash e.key e.val)
              let ep' ← dictEpoch a
              if (ep' != epoch) = true then do
                  (unsupported "dict.changed-during-merge" : Sem PUnit)
                  pure (ForInStep.yield PUnit.unit)
                else pure (ForInStep.yield PUnit.unit)
            | _ => do
              (unsupported "dict.changed-during-merge" : Sem PUnit)
              pure (ForInStep.yield PUnit.unit) : Sem (ForInStep PUnit))
      pure ()) Q E s := by
    refine wpAny_bind (wpAny_dictEntries hoo hdo' ?_)
    refine wpAny_bind (wpAny_dictEpoch hoo hdo' ?_)
    refine wpAny_bind ?_
    rw [List.range_eq_range']
    refine wpAny_forIn_list _
      (fun rest _ s' => ∃ h' i, s' = { s with heap := h' } ∧ rest = List.range' i (eso.size - i) ∧ i ≤ eso.size ∧ h'.DictOf knd d (merged kvs (more.take i)) ∧ h'.get? a = some oo ∧ Heap.SameBut d s.heap h')
      _ ?_ ?_ _ _ ⟨s.heap, 0, rfl, by simp, Nat.zero_le _, by simpa [merged] using hd, hoo, Heap.SameBut.refl _ _⟩
    · rintro x rest b s' ⟨h', i, rfl, hr, hi, hd', hoo', hs'⟩
      have hlt : i < eso.size := by
        rcases Nat.lt_or_ge i eso.size with h | h
        · exact h
        · rw [Nat.sub_eq_zero_of_le h] at hr; simp at hr
      obtain ⟨rfl, hrest⟩ : x = i ∧ rest = List.range' (i + 1) (eso.size - (i + 1)) := by
        have e : eso.size - i = (eso.size - (i + 1)) + 1 := by omega
        rw [e, List.range'_succ] at hr
        injection hr with h1 h2
        exact ⟨h1, h2⟩
      refine wpAny_bind (wpAny_dictEntries hoo' hdo' ?_)
      rw [Array.getElem?_eq_getElem hlt]
      obtain ⟨kv, hkv⟩ : ∃ kv, more[x]? = some kv := ⟨more[x]'(by rw [hlen]; exact hlt), List.getElem?_eq_getElem _⟩
      obtain ⟨k, v⟩ := kv
      obtain ⟨hkey, hval⟩ := hpo.get? (e := eso[x]) (by simp [hlt]) hkv
      obtain ⟨k', hkey', hhash⟩ := hko eso[x] (Array.getElem_mem hlt)
      obtain rfl : k' = k := knd.inj _ _ _ hkey' hkey
      show wpAny _ _ (holding [eso[x].key, eso[x].val] (dictPut d eso[x].hash eso[x].key eso[x].val) >>= _) _ _ _
      rw [hhash, hval]
      have hmx : (merged kvs (more.take x)).length ≤ sizeLine := by
        have e1 := merged_length_le kvs (more.take x)
        have e2 : (more.take x).length ≤ more.length := by rw [List.length_take]; omega
        omega
      refine wpAny_bind (wpAny_holding (wpAny_dictPut hkey hd' (fun h'' hd'' hs'' => ?_) hmx))
      have hoo'' : h''.get? a = some oo := (hs''.2 a (Ne.symm hdo)).trans hoo'
      refine wpAny_bind (wpAny_dictEpoch hoo'' hdo' ?_)
      rw [if_neg (by simp)]
      exact wpAny_pure ⟨h'', x + 1, rfl, hrest, hlt, by rw [merged_take_succ kvs more x (k', v) hkv]; exact hd'', hoo'', hs'.trans hs''⟩
    · rintro b s' ⟨h', i, rfl, hr, hi, hd', hoo', hs'⟩
      have hin : i = eso.size := by
        rcases Nat.lt_or_ge i eso.size with h | h
        · have e : eso.size - i = (eso.size - (i + 1)) + 1 := by omega
          rw [e, List.range'_succ] at hr; exact nomatch hr
        · exact Nat.le_antisymm hi h
      refine wpAny_pure (hQ h' ?_ ⟨oo, eso, epo, hoo', hco, hdo', hko, hpo, hno⟩ hs')
      rw [hin, ← hlen, List.take_length] at hd'; exact hd'
  refine wpAny_bind (wpAny_dictEntries hod hdd ?_)
  split
  · refine wpAny_bind (wpAny_dictEntries hoo hdo' ?_)
    have h0 : (forIn eso PUnit.unit fun (e : DictEntry) (_ : PUnit) => (match e.key with
        | Value.ref a => do
          let q ← specialOf e.key (Str.ofString "__eq__")
          if (q != some (Value.builtin "object.__eq__")) = true then
              if (Array.filter (fun x => x.hash == e.hash) eso).size > 1 then do
                (unsupported "dict.merge-into-an-empty-dict:keys-of-equal-hash" : Sem PUnit)
                pure (ForInStep.yield PUnit.unit)
              else pure (ForInStep.yield PUnit.unit)
            else pure (ForInStep.yield PUnit.unit)
        | x => pure (ForInStep.yield PUnit.unit) : Sem (ForInStep PUnit))) = pure PUnit.unit := by
      rw [← Array.forIn_toList]
      refine forIn_yield_id _ fun e he c => ?_
      obtain ⟨k, hkey, _⟩ := hko e (Array.mem_toList_iff.mp he)
      have b := knd.byValue k _ hkey
      cases hk : e.key <;> first | rfl | (rw [hk] at b; cases b)
    exact wpAny_bind (wpAny_of_eq h0 loop)
  · exact loop
theorem forIn_gatherM (main : Option Addr) (f : (Option (Sem Value) × Sem Value) → (Option Addr × List (Sem Value × Sem Value)) → Sem (ForInStep (Option Addr × List (Sem Value × Sem Value))))
    (hf : ∀ (p : Sem Value × Sem Value) (run : List (Sem Value × Sem Value)), run.length + 1 < 17 → f (some p.1, p.2) (main, run) = pure (.yield (main, run ++ [p]))) :
    ∀ (items run : List (Sem Value × Sem Value)), run.length + items.length < 17 → forIn (items.map fun p => (some p.1, p.2)) (main, run) f = pure (main, run ++ items)
  | [], run, _ => by simp
  | p :: rest, run, h => by
    rw [List.map_cons, List.forIn_cons, hf p run (by simp at h; omega), pure_bind]
    have := forIn_gatherM main f hf rest (run ++ [p]) (by simp at h ⊢; omega)
    simpa using this
theorem wpAny_no {α : Type} {m : Sem α} {Q : α → Shared → Prop} {E' : Value → Shared → Prop} (h : wpAny (model prog w) A m Q (fun _ _ => False) s) : wpAny (model prog w) A m Q E' s := wpAny_mono h (fun _ _ x => x) fun _ _ x => x.elim
theorem wpAny_spread {m : Sem Value} {pairs : List (Sem Value × Sem Value)} {Q : Value → Shared → Prop} (h0 : pairs ≠ []) (hlen : pairs.length ≤ 15)
    (h : wpAny (model prog w) A m (fun v s1 => wpAny (model prog w) A (mergeMapping s.heap.objs.size v false) (fun _ s2 => wpAny (model prog w) A (subDict pairs) (fun sub s3 =>
      wpAny (model prog w) A (mergeMapping s.heap.objs.size (.ref sub) false) (fun _ s4 => Q (.ref s.heap.objs.size) s4) (fun _ _ => False) s3) E s2) (fun _ _ => False) s1) E
      { s with heap := s.heap.push { cls := .type "dict", data := .dict #[] } }) :
    wpAny (model prog w) A (dictDisplay ((none, m) :: pairs.map fun p => (some p.1, p.2))) Q E s := by
  unfold dictDisplay
  dsimp only
  rw [List.forIn_cons]
  simp only [List.isEmpty_nil, if_true, pure_bind]
  refine wpAny_bind (wpAny_bind (wpAny_bind (wpAny_alloc ?_)))
  refine wpAny_bind (wpAny_holding (wpAny_mono h (fun v s1 h1 => ?_) fun _ _ e => e))
  refine wpAny_bind (wpAny_onRaise (wpAny_tryCatch (wpAny_onRaise (wpAny_holding (wpAny_mono h1 (fun _ s2 h2 => ?_) fun _ _ x => x.elim)))))
  refine wpAny_pure ?_
  simp only []
  rw [forIn_gatherM (some s.heap.objs.size) _ (fun p run h => by
    have hne : ((run ++ [(p.1, p.2)]).length == 17) = false := by simp; omega
    simp only [hne, Bool.false_eq_true, if_false]) pairs [] (by simp; omega)]
  refine wpAny_pure ?_
  simp only [List.nil_append]
  have he : pairs.isEmpty = false := by
    cases pairs with
    | nil => exact absurd rfl h0
    | cons a b => rfl
  simp only [he, Bool.false_eq_true, if_false]
  refine wpAny_bind (wpAny_bind (wpAny_holding (wpAny_mono h2 (fun sub s3 h3 => ?_) fun _ _ e => e)))
  refine wpAny_bind (wpAny_onRaise (wpAny_holding (wpAny_mono h3 (fun _ s4 h4 => ?_) fun _ _ x => x.elim)))
  exact wpAny_pure (wpAny_pure h4)
end
/-- {**a, k: v, ..}: the new dict stands empty, then with a's entries, while the pairs are made -/
def tSpread (te : TE) (trs : List (TE × TE)) : TE := fun σ H Q => ∀ p, H p = none → te σ (upd H p (.dK [])) fun x H1 => ∃ a kvs, x = .ref a ∧ a ≠ p ∧ H1 a = some (.dK kvs) ∧ H1 p = some (.dK []) ∧ kvs.length ≤ 1000 ∧
  ∀ p2, H1 p2 = none → tPairs trs σ (upd (upd H1 p (.dK kvs)) p2 (.dK [])) fun ps H2 => H2 p = some (.dK kvs) ∧ H2 p2 = some (.dK []) ∧ ∃ kvs2 : List (Key × V), ps = kvs2.map (fun kv => (kV kv.1, kv.2)) ∧ kvs2.length ≤ 15 ∧
    Q (.ref p) (upd (upd H2 p2 (.dK (mergeK [] kvs2))) p (.dK (mergeK kvs (mergeK [] kvs2))))
theorem pe_spread {X : Cx} {pos : Pos} {e : Expr} {keys : List (Option Expr)} {values : List Expr} {te : TE} {trs : List (TE × TE)} (he : PE X e te) (h : PPs X pos keys values trs) (hall : keys.all (·.isSome) = true) (hl : keys.length = values.length) (h0 : keys ≠ [])
    (h15 : keys.length ≤ 15) : PE X (.Dict (none :: keys) (e :: values) pos) (tSpread te trs) := by
  refine ⟨fun pins s σ H Q I q => ?_⟩
  have hn := I.hok.fresh (Nat.le_refl s.heap.objs.size)
  have I1 := I.laid (a := s.heap.objs.size) (o := .dK []) (h' := s.heap.push { cls := .type "dict", data := .dict #[] }) (t' := s.toks) (fun _ _ q => Heap.get?_push_of_some _ q) (Nat.le_refl _) (dk_empty s.heap I.big)
  rw [arm_eval_Dict]
  refine wpAny_bind (wpAny_standAt ?_)
  have hz : (evalEachOpt (none :: keys) X.env).zip ((evalEach (e :: values) X.env).map fun v => do let x ← v; standAt pos; pure x) = (none, do let x ← eval e X.env; standAt pos; pure x) :: (pairTrees keys values X.env pos).map fun p => (some p.1, p.2) := by
    rw [← zip_pairTrees keys values X.env pos hall hl]
    rfl
  rw [hz]
  have hpl := pairTrees_length keys values X.env pos hall hl
  refine wpAny_spread (by intro z; rw [z] at hpl; exact h0 (List.length_eq_zero_iff.mp hpl.symm)) (by rw [hpl]; exact h15) ?_
  refine wpAny_bind (thn (he.run pins _ σ _ _ I1 (q _ hn)) fun v s1 ⟨x, H1, I2, rx, a, kvs, ex, nap, ha, hp, lk, q2⟩ => wpAny_bind (wpAny_standAt (wpAny_pure ?_)))
  subst ex
  cases rx
  obtain ⟨z, hd, vs, rel, dd⟩ := dk_of I2.hok ha
  obtain ⟨_, hd0, vs0, r0, dd0⟩ := dk_of I2.hok hp
  cases r0
  refine wpAny_mergeMapping (kvs := []) (more := vs) (fun e => nap e.symm) hd dd0 dd (fun h' dd' _ hs => ?_) (by rw [← rel.length, sizeLine_eq, List.length_nil]; omega)
  have hno : (vs.map (·.1)).Nodup := let ⟨_, _, _, _, _, _, _, _, hn⟩ := dd; hn
  rw [merged_nil_of_nodup vs hno] at dd'
  have he1 : ∃ q, h'.get? s.heap.objs.size = some q := let ⟨q, _, _, hq, _⟩ := dd'; ⟨q, hq⟩
  have I3 := d_write (t' := s1.toks) I2 (by rw [hp]; exact True.intro) hs he1 (dk_new z hd0 rel dd')
  have hn2 := I3.hok.fresh (Nat.le_refl h'.objs.size)
  have np2 : h'.objs.size ≠ s.heap.objs.size := fun e => by
    rw [e, upd_same] at hn2
    cases hn2
  rw [upd_ne np2] at hn2
  have I4 := I3.laid (a := h'.objs.size) (o := .dK []) (h' := h'.push { cls := .type "dict", data := .dict #[] }) (t' := s1.toks) (fun _ _ q => Heap.get?_push_of_some _ q) (Nat.le_refl _) (dk_empty h' I3.big)
  refine wpAny_subDict (knd := mixKind X.prog X.w) (by rw [hpl]; exact h15) (thn (h.run pins _ σ _ _ I4 (q2 _ hn2)) fun ws s2 ⟨ps, H2, I5, rel2, e1, e2, kvs2, ep, lk2, q3⟩ => ?_)
  subst ep
  obtain ⟨rs, c, rk⟩ := carries_of (P := X.prog) (w := X.w) rel2
  obtain ⟨z2, hd2, vs2, r2, dd2⟩ := dk_of I5.hok e2
  cases r2
  refine ⟨rs, c, dd2, fun h2 dd3 hs2 => ?_⟩
  have hz2 : (mergeK [] kvs2).length ≤ sizeLine := by
    have h1 := length_mergeK kvs2 []
    rw [List.length_nil] at h1
    rw [sizeLine_eq]; omega
  have he2 : ∃ q, h2.get? h'.objs.size = some q := let ⟨q, _, _, hq, _⟩ := dd3; ⟨q, hq⟩
  have I6 := d_write (t' := s2.toks + ws.length) I5 (by rw [e2]; exact True.intro) hs2 he2 (dk_new hz2 hd2 (rk.merge .nil) dd3)
  have e3 : (upd H2 h'.objs.size (.dK (mergeK [] kvs2))) s.heap.objs.size = some (.dK kvs) := by rw [upd_ne (Ne.symm np2)]; exact e1
  have e4 : (upd H2 h'.objs.size (.dK (mergeK [] kvs2))) h'.objs.size = some (.dK (mergeK [] kvs2)) := upd_same
  obtain ⟨z5, hd5, vs5, r5, dd5⟩ := dk_of I6.hok e3
  obtain ⟨z6, hd6, vs6, r6, dd6⟩ := dk_of I6.hok e4
  refine wpAny_mergeMapping (kvs := vs5) (more := vs6) (Ne.symm np2) hd6 dd5 dd6 (fun h3 dd7 _ hs3 => ?_) ?_
  · have hz3 : (mergeK kvs (mergeK [] kvs2)).length ≤ sizeLine := by
      have h1 := length_mergeK kvs2 []
      have h2 := length_mergeK (mergeK [] kvs2) kvs
      rw [List.length_nil] at h1
      rw [sizeLine_eq]; omega
    have he3 : ∃ q, h3.get? s.heap.objs.size = some q := let ⟨q, _, _, hq, _⟩ := dd7; ⟨q, hq⟩
    exact ⟨.ref s.heap.objs.size, _, d_write (t' := s2.toks + ws.length) I6 (by rw [e3]; exact True.intro) hs3 he3 (dk_new hz3 hd5 (r6.merge r5) dd7), rfl, q3⟩
  · rw [← r5.length, ← r6.length]
    have h1 := length_mergeK kvs2 []
    rw [List.length_nil] at h1
    rw [sizeLine_eq]; omega
end Af

set_option Elab.async false
set_option linter.all false
set_option maxRecDepth 100000
set_option maxHeartbeats 4000000
namespace Af
open PySem PySem.Spec PyProof.Rows L2
/-! d.update(e) of two dicts with keys of numbers and texts -/
def rUpdate : V → List V → Hp → VK → Prop := fun x xs H Q => ∃ (d e : Addr) (kvs more : List (L2.Key × V)), x = .ref d ∧ xs = [.ref e] ∧ d ≠ e ∧ H d = some (.dK kvs) ∧ H e = some (.dK more) ∧ kvs.length + more.length ≤ 1000 ∧ Q .non (upd H d (.dK (mergeK kvs more)))
theorem mt_update {X : Cx} : MtR X "dict.update" rUpdate := by
  intro pins s σ H x xs v us Q I rx rxs h
  obtain ⟨d, e, kvs, more, rfl, rfl, ne, hd, he, le, q⟩ := h
  cases rx
  obtain ⟨u, rfl, ru⟩ := rxs.one
  cases ru
  obtain ⟨z, lo, vs, rel, dd⟩ := dk_of I.hok hd
  obtain ⟨z2, lo2, vs2, rel2, dd2⟩ := dk_of I.hok he
  refine call_meetsIn PySem.F.slot_dict_update dd.typeIs PySem.F.entry_dict_update (PySem.F.args_dict_update_2 _ _) (meets_dict_update (mixKind X.prog X.w) d e ne lo2)
    ⟨vs, vs2, dd, dd2, by rw [← rel.length, ← rel2.length, sizeLine_eq]; omega, fun h' dd' _ hs => ?_⟩
  have hz : (mergeK kvs more).length ≤ sizeLine := by
    have h1 := length_mergeK more kvs
    rw [sizeLine_eq]; omega
  have he2 : ∃ q, h'.get? d = some q := let ⟨q, _, _, hq, _⟩ := dd'; ⟨q, hq⟩
  exact ⟨.non, _, d_write (t' := s.toks) I (by rw [hd]; exact True.intro) hs he2 (dk_new hz lo (rel2.merge rel) dd'), rfl, q⟩
end Af

set_option Elab.async false
set_option linter.all false
set_option maxRecDepth 100000
set_option maxHeartbeats 8000000
namespace Af
open PySem L2
abbrev s_l_store_due : Stmt := top 56
abbrev N_l_store_due : List Str := ["_law_page_here", "_law_call_here", "_law_verb", "_law_parts_here"]
theorem sc_l_store_due : FnScope N_l_store_due ["_law_page_here", "_law_call_here"] (defScope s_l_store_due) := ⟨rfl, rfl, rfl, by decide +kernel, rfl, by decide +kernel, by decide +kernel⟩

/-! calls, and what they make -/
inductive Cl where
  | wr (f : Int) (ws : List Int)
  | bar
  | lose
  | ari (z : Int)
def ClV (H : Hp) (t : Addr) : Cl → Prop
  | .wr f ws => ∃ b, H t = some (.tup [.str "write", .int f, .ref b]) ∧ H b = some (.tup (ivs ws))
  | .bar => H t = some (.tup [.str "barrier"])
  | .lose => H t = some (.tup [.str "lose"])
  | .ari z => H t = some (.tup [.str "arrive", .int z])
theorem ClV.fr {R : Addr} {L : List Addr} {H H' : Hp} {t : Addr} {cl : Cl} (lk : Lok R L H) (h : ClV H t cl) (f : Fr L H H') : ClV H' t cl := by
  have g : ∀ {a : Addr} {xs : List V}, H a = some (.tup xs) → H' a = some (.tup xs) := fun e => f _ _ (lk.tup e) e
  cases cl with
  | wr f ws => obtain ⟨b, h1, h2⟩ := h; exact ⟨b, g h1, g h2⟩
  | bar => exact g h
  | lose => exact g h
  | ari z => exact g h
theorem ClV.same {H H' : Hp} {t : Addr} {cl : Cl} (h : ClV H t cl) (s : Same H H') : ClV H' t cl := by
  cases cl with
  | wr f ws => obtain ⟨b, h1, h2⟩ := h; exact ⟨b, s _ _ h1, s _ _ h2⟩
  | bar => exact s _ _ h
  | lose => exact s _ _ h
  | ari z => exact s _ _ h
def ClG (n : Nat) : Cl → Prop
  | .wr f ws => OkS n (some (f, ws))
  | .ari z => 0 ≤ z ∧ z ≤ 64
  | _ => True
def exec (s : Sv) : Cl → Sum Sv Nat
  | .wr f ws => stpOut s (some (f, ws))
  | .bar => stpOut s none
  | .lose => .inl (losOut s)
  | .ari z => arrOut s z
def nx (s : Sv) (cl : Cl) : Sv := match exec s cl with
  | .inl s' => s'
  | .inr _ => s
def nxE (s : Sv) (es : List Sv) (cl : Cl) : List Sv := match exec s cl with
  | .inl _ => es ++ [s]
  | .inr _ => es
theorem exec_lt {s : Sv} {cl : Cl} {k : Nat} (h : exec s cl = .inr k) : k < 4 := by
  have st : ∀ {x : Stp}, stpOut s x = .inr k → k < 4 := fun {x} h => by
    unfold stpOut at h
    split at h
    · cases h
    · cases h; decide
  cases cl with
  | wr f ws => exact st h
  | bar => exact st h
  | lose => cases h
  | ari z =>
    have h : arrOut s z = .inr k := h
    unfold arrOut at h
    split at h
    · split at h
      · cases h; decide
      · split at h
        · cases h; decide
        · cases h
    · cases h; decide
theorem nx_cells (s : Sv) (o : OkSv s) (cl : Cl) : (nx s cl).pl.cs.length = s.pl.cs.length := by
  have st : ∀ {x : Stp} {s' : Sv}, stpOut s x = .inl s' → s'.pl.cs.length = s.pl.cs.length := fun {x s'} h => by
    unfold stpOut at h
    split at h
    · cases h; rfl
    · cases h
  unfold nx
  cases e : exec s cl with
  | inr k => rfl
  | inl s' =>
    show s'.pl.cs.length = _
    cases cl with
    | wr f ws => exact st e
    | bar => exact st e
    | lose =>
      cases e
      exact o.hl
    | ari z =>
      have h : arrOut s z = .inl s' := e
      unfold arrOut at h
      split at h
      · split at h
        · cases h
        · split at h
          · cases h
          · cases h; rfl
      · cases h
def wdE : Nat → Str
  | 0 => "piece"
  | 1 => "arrived"
  | 2 => "early"
  | _ => "many"
theorem pg_nx {s s' : Sv} {cl : Cl} (g : PgOk s) (gc : ClG s.pl.cs.length cl) (e : exec s cl = .inl s') : PgOk s' := by
  cases cl with
  | wr f ws => exact pg_stp (st := some (f, ws)) g gc e
  | bar => exact pg_stp g (st := none) True.intro e
  | lose => cases e; exact pg_los g
  | ari z => exact pg_arr g e
def sp_due (K : PySem.W.Frag) : Sp := fun vs H Q _ => ∃ (pg t sa fa : Addr) (s : Sv) (cl : Cl), vs = [.ref pg, .ref t] ∧ PageX H (.ref pg) s.pl s.came sa fa ∧ PgOk s ∧ ClV H t cl ∧ ClG s.pl.cs.length cl ∧
  (∀ k, exec s cl = .inr k → ∀ H', Same H H' → Q (.str (wdE k)) H') ∧ (∀ s', exec s cl = .inl s' → ∀ H' sa' fa', Fr [pg] H H' → (sa' = sa ∨ H sa' = none) → (fa' = fa ∨ H fa' = none) → PageX H' (.ref pg) s'.pl s'.came sa' fa' → Q (.str "") H')
theorem longer_out {s : Sv} {st : Stp} {Q : VK} {H : Hp} {pg sa fa : Addr} (kE : ∀ k, stpOut s st = .inr k → ∀ H', Same H H' → Q (.str (wdE k)) H') (kQ : ∀ s', stpOut s st = .inl s' → ∀ H' sa' fa', Fr [pg] H H' → (sa' = sa ∨ H sa' = none) → (fa' = fa ∨ H fa' = none) → PageX H' (.ref pg) s'.pl s'.came sa' fa' → Q (.str "") H') :
    (¬ lenOk (addS s.pl st) → ∀ H', Same H H' → Q (.str "many") H') ∧ (lenOk (addS s.pl st) → ∀ H' sa', Fr [pg] H H' → H sa' = none → PageX H' (.ref pg) (addS s.pl st) s.came sa' fa → Q (.str "") H') :=
  ⟨fun c H' m => kE 3 (if_neg c) H' m, fun c H' sa' f n pv => kQ ⟨addS s.pl st, s.came, s.held⟩ (if_pos c) H' sa' fa f (.inr n) (.inl rfl) pv⟩
section
variable {P : Program} {w : World} {K : PySem.W.Frag} {mg : Str → Option Value} {base : Heap}
theorem ok_due {f : Addr} {fd : FuncData} (F : Fun K "_law_store_due" "_law_store_due" s_l_store_due f fd) (T : Txt mg) (c_l_parts : Cal P w K mg base 1 "_law_parts" ["_law_triple"] (sp_lparts K)) (c_l_is_below : Cal P w K mg base 1 "_law_is_below" ["_law_thing", "_law_under"] (sp_is_index K))
    (c_l_is_step : Cal P w K mg base 2 "_law_is_step" ["_law_cells", "_law_first", "_law_row"] sp_listep) (c_l_longer : Cal P w K mg base 2 "_law_longer" ["_law_page_here", "_law_step_here"] sp_longer) (c_l_held : Cal P w K mg base 2 "_law_held" ["_law_page_here"] sp_lheld)
    (c_l_is_early : Cal P w K mg base 1 "_law_is_early" ["_law_parts_here", "_law_arrived", "_law_k"] (sp_early K)) : FnOk P w K mg base CX0 3 f fd ["_law_page_here", "_law_call_here"] (sp_due K) := by
  refine F.ok sc_l_store_due (fun vs H Q E h => ?_) (fun cdv A outer s H vs Q E hr h => ?_)
  · obtain ⟨_, _, _, _, _, _, rfl, _⟩ := h
    rfl
  obtain ⟨pg, t, sa, fa, sv, cl, rfl, pgv, g, hc, gc, kE, kQ⟩ := h
  obtain ⟨pg', rows, tr, ca, xs, epg, hpg, vp, vc, htr, hca, hsa, hst, hf, r10⟩ := id pgv
  cases epg
  refine ⟨_, (pss_cons (ps_set (i := 2) sc_l_store_due.nd rfl (Or.inl rfl) (pe_ix ix_seq' (pv 1) pe_int (fun _ _ => rfl)))
    (pss_cons (ps_if (pt_cmpR op_eq (pv 2) pe_str (nomark _))
      (pss_cons (ps_if (pt_not (pt_val (pe_cal c_l_is_step hr (pa_cons (pe_callB call_len' (by rfl) T.len (by decide +kernel) (pa_cons (pe_ix ix_seq' (pe_dget hr.u1 (pv 0) pe_str (fun _ _ => rfl)) pe_int (fun _ _ => rfl)) pa_nil)) (pa_cons (pe_ix ix_seq' (pv 1) pe_int (fun _ _ => rfl)) (pa_cons (pe_ix ix_seq' (pv 1) pe_int (fun _ _ => rfl)) pa_nil))))))
      (pss_one (ps_ret pe_str))
      pss_nil)
    (pss_one (ps_ret (pe_cal c_l_longer hr (pa_cons (pv 0) (pa_cons (pe_tup' (pa_cons (pe_ix ix_seq' (pv 1) pe_int (fun _ _ => rfl)) (pa_cons (pe_ix ix_seq' (pv 1) pe_int (fun _ _ => rfl)) pa_nil))) pa_nil))))))
      pss_nil)
    (pss_cons (ps_if (pt_cmpR op_eq (pv 2) pe_str (nomark _))
      (pss_one (ps_ret (pe_cal c_l_longer hr (pa_cons (pv 0) (pa_cons pe_non pa_nil)))))
      pss_nil)
    (pss_cons (ps_if (pt_cmpR op_eq (pv 2) pe_str (nomark _))
      (pss_cons (ps_expr (pe_bm PySem.F.plainAttrs_dict PySem.F.slot_dict_update PySem.F.type_dict_update mt_update (pv 0) (pa_cons (pe_disp (pps_cons pe_str (pe_tup' (pa_cons (pe_cal c_l_held hr (pa_cons (pv 0) pa_nil)) (pa_cons (pe_ix ix_seq' (pe_dget hr.u1 (pv 0) pe_str (fun _ _ => rfl)) pe_int (fun _ _ => rfl)) (pa_cons (pe_lst' pa_nil) pa_nil)))) (pps_cons pe_str (pe_lst' pa_nil) pps_nil)) rfl rfl (by simp) (by decide)) pa_nil)))
    (pss_one (ps_ret pe_str)))
      pss_nil)
    (pss_cons (ps_set (i := 3) sc_l_store_due.nd rfl (Or.inl rfl) (pe_cal c_l_parts hr (pa_cons (pe_dget hr.u1 (pv 0) pe_str (fun _ _ => rfl)) pa_nil)))
    (pss_cons (ps_if (pt_not (pt_val (pe_cal c_l_is_below hr (pa_cons (pe_ix ix_seq' (pv 1) pe_int (fun _ _ => rfl)) (pa_cons (pe_callB call_len' (by rfl) T.len (by decide +kernel) (pa_cons (pv 3) pa_nil)) pa_nil)))))
      (pss_one (ps_ret pe_str))
      pss_nil)
    (pss_cons (ps_if (pt_cmpR op_in_seq (pe_ix ix_seq' (pv 1) pe_int (fun _ _ => rfl)) (pe_dget hr.u1 (pv 0) pe_str (fun _ _ => rfl)) (by rfl))
      (pss_one (ps_ret pe_str))
      pss_nil)
    (pss_cons (ps_if (pt_val (pe_cal c_l_is_early hr (pa_cons (pv 3) (pa_cons (pe_dget hr.u1 (pv 0) pe_str (fun _ _ => rfl)) (pa_cons (pe_ix ix_seq' (pv 1) pe_int (fun _ _ => rfl)) pa_nil)))))
      (pss_one (ps_ret pe_str))
      pss_nil)
    (pss_cons (ps_asg (pe_op op_cat' (pe_dget hr.u1 (pv 0) pe_str (fun _ _ => rfl)) (pe_lst' (pa_cons (pe_ix ix_seq' (pv 1) pe_int (fun _ _ => rfl)) pa_nil))) (pg_sub (pv 0) pe_str (set_dict hr.u1)))
    (pss_one (ps_ret pe_str))))))))))), ?_⟩
  have gp : ∀ {G : Hp}, Same H G → DGet G pg (.str "plan") (some (.ref tr)) := fun s => .inl ⟨rows, .inr "plan", .inl (s _ _ hpg), rfl, vp.symm⟩
  have gca : ∀ {G : Hp}, Same H G → DGet G pg (.str "came") (some (.ref fa)) := fun s => .inl ⟨rows, .inr "came", .inl (s _ _ hpg), rfl, vc.symm⟩
  have xl : xs.length = sv.pl.sts.length := paired_len hst
  have sl := g.pl.sl
  have c24 := g.pl.c24
  have w1 := g.pl.w1
  cases cl with
  | wr f0 ws =>
    obtain ⟨b, ht, hb⟩ := hc
    obtain ⟨kN, kY⟩ := longer_out kE kQ
    refine ⟨_, rfl, t, _, 0, _, rfl, rfl, .inr ht, rfl, _, rfl, rfl, _, rfl, iteT' (by decide +kernel) ?_⟩
    refine ⟨_, rfl, pg, .ref tr, rfl, gp (Same.refl _), tr, _, 0, _, rfl, rfl, .inr htr, rfl, ca, _, rfl, .inr hca, _, rfl, t, _, 1, _, rfl, rfl, .inr ht, rfl, _, rfl, t, _, 2, _, rfl, rfl, .inr ht, rfl, sv.pl.cs.length, f0, b, ws, by rw [ivs_len], hb, gc, c24, fun H1 s1 => ⟨_, rfl, iteF ?_⟩⟩
    refine ⟨_, rfl, _, rfl, t, _, 1, _, rfl, rfl, .inr (s1 _ _ ht), rfl, _, rfl, t, _, 2, _, rfl, rfl, .inr (s1 _ _ ht), rfl, szr, fun u H2 n2 s2 h2 => ?_⟩
    have S2 := s1.trans s2
    exact ⟨pg, sa, fa, .ref u, sv.pl, sv.came, some (f0, ws), rfl, pgv.same S2, g.pl, ⟨u, b, rfl, h2, S2 _ _ hb⟩, gc, fun c H' m => kN c H' (S2.trans m), fun c H' sa' f n pv => kY c H' sa' ((Fr.of S2).trans f) (S2.free n) pv⟩
  | bar =>
    obtain ⟨kN, kY⟩ := longer_out (st := none) kE kQ
    refine ⟨_, rfl, t, _, 0, _, rfl, rfl, .inr hc, rfl, _, rfl, rfl, _, rfl, iteF' (by decide +kernel) ?_⟩
    refine ⟨_, rfl, rfl, _, rfl, iteT' (by decide +kernel) ?_⟩
    exact ⟨_, rfl, pg, sa, fa, .non, sv.pl, sv.came, none, rfl, pgv, g.pl, rfl, True.intro, kN, kY⟩
  | lose =>
    refine ⟨_, rfl, t, _, 0, _, rfl, rfl, .inr hc, rfl, _, rfl, rfl, _, rfl, iteF' (by decide +kernel) ?_⟩
    refine ⟨_, rfl, rfl, _, rfl, iteF' (by decide +kernel) ?_⟩
    refine ⟨_, rfl, rfl, _, rfl, iteT' (by decide +kernel) ?_⟩
    have n0 : ∀ {p : Addr}, H p = none → Same H (upd H p (.dK [])) := fun n => same_new n
    refine ⟨_, rfl, .inr (.inr (.inl ⟨rfl, .inl ⟨_, hpg⟩⟩)), fun p np => ?_⟩
    have s0 := n0 np
    have fk : ∀ k ∈ sv.came, k < (ptsL sv.pl.w 0 sv.pl.sts).length := fun k hk => by rw [pts_len]; exact g.ok.lt k hk
    refine ⟨_, rfl, .ref pg, sv.pl, sv.came, rfl, (pgv.same s0).v, g.pl, fk, fun th H1 s1 h1 => ?_⟩
    have S1 := s0.trans s1
    refine ⟨_, rfl, pg, .ref tr, rfl, gp S1, tr, _, 1, _, rfl, rfl, .inr (S1 _ _ htr), rfl, szr, fun sl H2 n2 s2 h2 => ⟨szr, fun tq H3 n3 s3 h3 => ⟨szr, fun fl H4 n4 s4 h4 => ?_⟩⟩⟩
    have S4 := S1.trans (s2.trans (s3.trans s4))
    have hp4 : H4 p = some (.dK []) := (s1.trans (s2.trans (s3.trans s4))) _ _ upd_same
    refine ⟨hp4, [(.inr "plan", .ref tq), (.inr "came", .ref fl)], rfl, (by decide : 2 ≤ 15), ?_⟩
    have pp : pg ≠ p := fun e => by rw [e, np] at hpg; cases hpg
    have k4 : Ko p H (upd H4 p (.dK (mergeK [] [(.inr "plan", .ref tq), (.inr "came", .ref fl)]))) := (Ko.same (fun _ _ _ e => e : Ko p H H) S4).upd
    refine ⟨pg, p, rows, _, rfl, rfl, pp, k4 _ _ pp hpg, upd_same, by
      have : (mergeK [] [((.inr "plan" : L2.Key), V.ref tq), (.inr "came", .ref fl)]).length ≤ 2 := length_mergeK _ _
      omega, ?_⟩
    have e2 : mergeK rows (mergeK [] [((.inr "plan" : L2.Key), V.ref tq), (.inr "came", .ref fl)]) = putK (putK rows (.inr "plan") (.ref tq)) (.inr "came") (.ref fl) := rfl
    rw [e2]
    have hp5 := k4 _ _ pp hpg
    have h5f : ∀ {c : Addr} {o : HO}, H4 c = some o → (∀ r, o ≠ .dK r) → (upd H4 p (.dK (mergeK [] [((.inr "plan" : L2.Key), V.ref tq), (.inr "came", .ref fl)]))) c = some o := fun {c o} e n => by
      rw [upd_ne (fun zz => by rw [zz, hp4] at e; exact n _ (Option.some.inj e).symm)]
      exact e
    have S5 := k4.fr np
    have tq5 := h5f (s4 _ _ h3) (fun r z => by cases z)
    have th5 := h5f (s4 _ _ (s3 _ _ (s2 _ _ h1))) (fun r z => by cases z)
    have sl5 := h5f (s4 _ _ (s3 _ _ h2)) (fun r z => by cases z)
    have fl5 := h5f h4 (fun r z => by cases z)
    generalize upd H4 p (.dK (mergeK [] [((.inr "plan" : L2.Key), V.ref tq), (.inr "came", .ref fl)])) = H5 at S5 hp5 tq5 th5 sl5 fl5 ⊢
    have up : ∀ {c : Addr} {u : HO} {X : List (L2.Key × V)}, H5 c = some u → (∀ r, u ≠ .dK r) → (upd H5 pg (.dK X)) c = some u := fun {c u X} e n => by
      rw [upd_ne (fun zz => by rw [zz, hp5] at e; exact n _ (Option.some.inj e).symm)]
      exact e
    have vc1 : valV (putK rows (.inr "plan") (.ref tq)) (.inr "came") = some (.ref fa) := by rw [valV_put, if_neg (by decide), vc]
    refine kQ (losOut sv) rfl _ sl fl ((Fr.of S5).upd (by simp)) (.inr (S1.free n2)) (.inr ((S1.trans (s2.trans s3)).free n4)) ⟨pg, _, tq, th, [], rfl, upd_same, ?_, ?_, up tq5 (fun r z => by cases z), ?_, up sl5 (fun r z => by cases z), .nil, up fl5 (fun r z => by cases z), ?_⟩
    · rw [valV_put, if_neg (by decide), valV_put, if_pos rfl]
    · rw [valV_put, if_pos rfl]
    · have e := up (X := putK (putK rows (.inr "plan") (.ref tq)) (.inr "came") (.ref fl)) th5 (fun r z => by cases z)
      rw [← show sv.held = heldP sv.pl sv.came from g.hd] at e
      exact e
    · have l1 : (putK rows (.inr "plan") (V.ref tq)).length = rows.length := by
        unfold putK
        rw [if_pos (any_of_val vp), List.length_map]
      have l2 : (putK (putK rows (.inr "plan") (V.ref tq)) (.inr "came") (.ref fl)).length = (putK rows (.inr "plan") (V.ref tq)).length := by
        rw [putK, if_pos (any_of_val vc1), List.length_map]
      rw [l2, l1]
      exact r10
  | ari z =>
    refine ⟨_, rfl, t, _, 0, _, rfl, rfl, .inr hc, rfl, _, rfl, rfl, _, rfl, iteF' (by decide +kernel) ?_⟩
    refine ⟨_, rfl, rfl, _, rfl, iteF' (by decide +kernel) ?_⟩
    refine ⟨_, rfl, rfl, _, rfl, iteF' (by decide +kernel) ?_⟩
    refine ⟨_, rfl, pg, .ref tr, rfl, gp (Same.refl _), ?_⟩
    refine ⟨tr, sa, ca, sv.pl.w, xs, sv.pl.sts, rfl, htr, hsa, hst, by omega, by omega, fun x hx => (g.pl.st x hx).wide c24, fun l H1 ys s1 n1 h1 p1 => ?_⟩
    have yl : ys.length = (pcs sv).length := by rw [paired_len p1, pts_len]; rfl
    refine ⟨_, rfl, t, _, 1, _, rfl, rfl, .inr (s1 _ _ hc), rfl, _, rfl, l, _, rfl, .inl h1, .int z, _, "int", rfl, ty_i, ⟨_, rfl, ?_⟩⟩
    by_cases hz : 0 ≤ z ∧ z < ((pcs sv).length : Int)
    rotate_left
    · refine iteT' (by
        show (!(decide (0 ≤ z) && decide (z < ((ys.length : Nat) : Int)))) = true
        rw [yl]
        by_cases c : 0 ≤ z
        · rw [decide_eq_false (fun h => hz ⟨c, h⟩), Bool.and_false]; rfl
        · rw [decide_eq_false c]; rfl) (kE 0 (if_neg hz) H1 s1)
    obtain ⟨n, rfl⟩ := Int.eq_ofNat_of_zero_le hz.1
    have hn : n < (pcs sv).length := by have := hz.2; omega
    refine iteF' (by
      show (!(decide ((0 : Int) ≤ (n : Int)) && decide ((n : Int) < ((ys.length : Nat) : Int)))) = false
      rw [yl, decide_eq_true hz.1, decide_eq_true hz.2]
      rfl) ?_
    have ex : exec sv (.ari (n : Int)) = if sv.came.contains n = true then .inr 1 else if gI (rkP sv.pl) n ≠ gI (rkP sv.pl) sv.came.length then .inr 2 else .inl ⟨sv.pl, sv.came ++ [n], behF sv.held (pcAt (pcs sv) n)⟩ := if_pos hz
    refine ⟨_, rfl, t, _, 1, _, rfl, rfl, .inr (s1 _ _ hc), rfl, _, rfl, pg, .ref fa, rfl, gca s1, fa, _, rfl, .inl (SqL.of (s1 _ _ hf)), rfl, flat_nvs _, _, rfl, ?_⟩
    rw [if_neg (by decide), in_nvs]
    by_cases c1 : sv.came.contains n = true
    · rw [if_pos c1] at ex
      exact iteT' c1 (kE 1 ex H1 s1)
    refine iteF' (by simpa using c1) ?_
    rw [if_neg c1] at ex
    have nz : n ∉ sv.came := fun m => c1 (List.contains_iff_mem.mpr m)
    have pl' := pts_len sv.pl.w sv.pl.sts
    have pc := g.pl.pc
    have hn' : n < (ptsL sv.pl.w 0 sv.pl.sts).length := by rw [pl']; exact hn
    refine ⟨_, rfl, _, rfl, pg, .ref fa, rfl, gca s1, _, rfl, t, _, 1, _, rfl, rfl, .inr (s1 _ _ hc), rfl, l, fa, n, ys, _, sv.came, rfl, h1, p1, s1 _ _ hf, hn', by omega, fun H2 s2 => ⟨_, rfl, ?_⟩⟩
    rw [pg_early g hn nz]
    have S2 := s1.trans s2
    by_cases c2 : gI (rkP sv.pl) n ≠ gI (rkP sv.pl) sv.came.length
    · rw [if_pos c2] at ex
      exact iteT' (decide_eq_true c2) (kE 2 ex H2 S2)
    refine iteF' (decide_eq_false c2) ?_
    rw [if_neg c2] at ex
    have cl := came_lt g.ok hn nz
    have pcl : (pcs sv).length = (allP sv.pl.w 0 sv.pl.sts).length := rfl
    refine ⟨_, rfl, pg, .ref fa, rfl, gca S2, _, rfl, t, _, 1, _, rfl, rfl, .inr (S2 _ _ hc), rfl, szr, fun l2 H3 n3 s3 h3 => ⟨fa, l2, _, _, rfl, rfl, s3 _ _ (S2 _ _ hf), h3, sz (by rw [nvs_len]; simp only [List.length_cons, List.length_nil]; omega), fun f2 H4 n4 s4 h4 => ?_⟩⟩
    have S4 := S2.trans (s3.trans s4)
    have hp4 := S4 _ _ hpg
    refine ⟨_, rfl, pg, _, rfl, DPut.k (k := .inr "came") hp4 (szl (by omega)), ?_⟩
    have up : ∀ {c : Addr} {u : HO}, H4 c = some u → (∀ r, u ≠ .dK r) → (upd H4 pg (.dK (putK rows (.inr "came") (.ref f2)))) c = some u := fun {c u} e n => by
      rw [upd_ne (fun zz => by rw [zz, hp4] at e; exact n _ (Option.some.inj e).symm)]
      exact e
    refine kQ _ ex _ sa f2 ((Fr.of S4).upd (by simp)) (.inl rfl) (.inr ((S2.trans s3).free n4)) ⟨pg, _, tr, ca, xs, rfl, upd_same, by rw [valV_put, if_neg (by decide), vp], by rw [valV_put, if_pos rfl], up (S4 _ _ htr) (fun r z => by cases z), up (S4 _ _ hca) (fun r z => by cases z), up (S4 _ _ hsa) (fun r z => by cases z), ?_, ?_, ?_⟩
    · refine L2.Paired.mapP (steps_same S4 hst) fun x p h => ?_
      cases p with
      | none => exact h
      | some fw =>
        obtain ⟨f0, ws⟩ := fw
        obtain ⟨a0, b0, e, h1, h2⟩ := h
        exact ⟨a0, b0, e, up h1 (fun r z => by cases z), up h2 (fun r z => by cases z)⟩
    · have e := up h4 (fun r z => by cases z)
      rw [show nvs sv.came ++ [V.int (n : Int)] = nvs (sv.came ++ [n]) by rw [nvs_app]; rfl] at e
      exact e
    · unfold putK
      rw [if_pos (any_of_val vc), List.length_map]
      exact r10
end
end Af

set_option Elab.async false
set_option linter.all false
set_option maxRecDepth 100000
namespace L2
open PySem PySem.Spec PyProof.Rows
/-! list(range(8, 0, -1)) -/
section
variable {X : Cx}
def tLst3 (ta : TA) : TE := fun σ H Q => ta σ H fun vs H1 => vs = [.int 8, .int 0, .int (-1)] ∧ ∀ q, H1 q = none → Q (.ref q) (upd H1 q (.lst ([8, 7, 6, 5, 4, 3, 2, 1].map V.int)))
theorem pe_listRg3 {a b c : Expr} {ta : TA} {p p2 pos pos2 : Pos} (hg : Gl X "list") (hm : X.mg "list" = none) (hg2 : Gl X "range") (hm2 : X.mg "range" = none) (ha : PA X [a, b, c] ta) (hc : X.calm = true := by rfl)
    (hs : starEach [a, b, c] X.env = (false, eval a X.env) :: starEach [b, c] X.env := by rfl) (hpl : (backTo pos2 (starEach [b, c] X.env)).any (·.1) = false := by rfl)
    (na : starEach [.Call (.Name "range" p2) [a, b, c] [] pos2] X.env = (false, eval (.Call (.Name "range" p2) [a, b, c] [] pos2) X.env) :: starEach [] X.env := by rfl) :
    PE X (.Call (.Name "list" p) [.Call (.Name "range" p2) [a, b, c] [] pos2] [] pos) (tLst3 ta) := by
  refine ⟨fun pins s σ H Q I h => ?_⟩
  have inner : wpAny (model X.prog X.w) X.A (eval (.Call (.Name "range" p2) [a, b, c] [] pos2) X.env) (fun x s' => ∃ r t u v H', x = .ref r ∧ IsRange s'.heap r 8 0 (-1) t u v ∧ Inv X pins σ H' s' ∧ ∀ q, H' q = none → Q (.ref q) (upd H' q (.lst ([8, 7, 6, 5, 4, 3, 2, 1].map V.int)))) X.xe s := by
    refine Call_ (ld_blt I hg2 hm2 boot_range (PyProof.Rows.callWith_type1 (thn (ha.run pos2 pins s σ H _ I h) fun us s1 ⟨vs, H1, I1, r1, q1⟩ => ?_) hs hpl))
    obtain ⟨e, q⟩ := q1
    subst e
    cases r1 with
    | cons r rr =>
      cases rr with
      | cons r' rr =>
        cases rr with
        | cons r'' rr =>
          cases rr
          obtain ⟨t, rfl⟩ := r
          obtain ⟨t', rfl⟩ := r'
          obtain ⟨t'', rfl⟩ := r''
          refine call_range_3 (by decide) ?_ (.inl (PyProof.noPylong_small (by decide +kernel)))
          exact ⟨_, _, _, _, H1, rfl, IsRange.new _ _ _ _ _ _ _, I1.kept (t' := s1.toks) fun b u e => Heap.get?_push_of_some _ e, q⟩
  refine Call_ (ld_blt I hg hm boot_list (PyProof.Rows.callWith_type1 (args_cons (thn inner fun x s1 ⟨r, t, u, v, H1, ex, hr, I1, q⟩ => args_nil ?_) na) na))
  subst ex
  refine call_list_range (n := 8) (I1.ok.hd hc) hr (by decide +kernel) (by decide +kernel) (by decide) fun h' tk acc c' hk e' hi => ?_
  refine ⟨.ref s1.heap.objs.size, upd H1 s1.heap.objs.size (.lst ([8, 7, 6, 5, 4, 3, 2, 1].map V.int)), I1.laid hk (Nat.le_refl _) (show ObjOk X.prog X.w _ _ _ (.lst _) from ⟨?_, acc.toList, c', ?_, ?_⟩), rfl, q _ (I1.hok.fresh (Nat.le_refl _))⟩
  · show 8 ≤ sizeLine
    decide
  · have e : acc.toList.length = 8 := by rw [Array.length_toList]; exact hi.1
    have z := vals_of_get acc.toList (fun m => V.int (8 + (m : Int) * (-1))) fun j u hj => hi.2 j u (by rw [← hj, Array.getElem?_toList])
    rw [e] at z
    exact z
  · rw [Array.toArray_toList]
    exact e'
end
end L2

set_option Elab.async false
set_option linter.all false
set_option maxRecDepth 100000
set_option maxHeartbeats 4000000
namespace Af
open PySem L2
/-! two lists of the same flat things -/
theorem items_eq {A : Around} {s : Shared} : ∀ {xs : List V} {us ws : List Value}, (∀ v ∈ xs, flatB v = true) → Vals xs us → Vals xs ws → ∀ j (h1 : j < us.length) (h2 : j < ws.length), SeqAt.EqAt A s us[j] ws[j] true
  | [], _, _, _, r1, _, j, h1, _ => by
    cases r1
    exact absurd h1 (Nat.not_lt_zero j)
  | x :: xs, _, _, f, r1, r2, j, h1, h2 => by
    cases r1 with
    | cons a1 b1 =>
      cases r2 with
      | cons a2 b2 =>
        cases j with
        | zero => exact eqAt_same a1 a2 (f x List.mem_cons_self)
        | succ j => exact items_eq (fun v m => f v (List.mem_cons_of_mem _ m)) b1 b2 j (Nat.lt_of_succ_lt_succ h1) (Nat.lt_of_succ_lt_succ h2)
theorem all_yes (n : Nat) : ((List.range n).all fun _ => true) = true := List.all_eq_true.mpr fun _ _ => rfl
def rEqFl (r : Bool) : R2 := fun x y H Q => ∃ a b xs, x = .ref a ∧ y = .ref b ∧ H a = some (.lst xs) ∧ H b = some (.lst xs) ∧ (∀ v ∈ xs, flatB v = true) ∧ Q (.bl r) H
section
variable {X : Cx}
theorem op_eqFl (hu : X.A.units + 64 < cLine) : OpR X (compareOp .Eq) (rEqFl true) := by
  intro pins s σ H x y v u Q I rx ry h
  obtain ⟨a, b, xs, rfl, rfl, ha, hb, f, q⟩ := h
  cases (show v = Value.ref a from rx)
  cases (show u = Value.ref b from ry)
  obtain ⟨us, r1, p1, _⟩ := I.list (SqL.of ha)
  obtain ⟨ws, r2, p2, _⟩ := I.list (SqL.of hb)
  have hsz : us.toArray.size = ws.toArray.size := by
    rw [List.size_toArray, List.size_toArray, ← r1.length, ← r2.length]
  refine SeqAt.RcAt.lists (e := fun _ => true) p1.isList p2.isList hsz (A := X.A) (by omega) (fun j h1 h2 => ?_) _ _ _ _ ?_
  · have k := items_eq (A := X.A.in1) (s := s) f r1 r2 j (by simpa using h1) (by simpa using h2)
    simpa using k
  · rw [all_yes]
    exact ⟨.bl true, H, I, rfl, q⟩
theorem op_neFl (hu : X.A.units + 64 < cLine) : OpR X (compareOp .NotEq) (rEqFl false) := by
  intro pins s σ H x y v u Q I rx ry h
  obtain ⟨a, b, xs, rfl, rfl, ha, hb, f, q⟩ := h
  cases (show v = Value.ref a from rx)
  cases (show u = Value.ref b from ry)
  obtain ⟨us, r1, p1, _⟩ := I.list (SqL.of ha)
  obtain ⟨ws, r2, p2, _⟩ := I.list (SqL.of hb)
  have hsz : us.toArray.size = ws.toArray.size := by
    rw [List.size_toArray, List.size_toArray, ← r1.length, ← r2.length]
  refine SeqAt.RcNeAt.lists (e := fun _ => true) p1.isList p2.isList hsz (A := X.A) (by omega) (fun j h1 h2 => ?_) _ _ _ _ ?_
  · have k := items_eq (A := X.A.in1) (s := s) f r1 r2 j (by simpa using h1) (by simpa using h2)
    simpa using k
  · rw [all_yes]
    exact ⟨.bl false, H, I, rfl, q⟩
end
end Af

set_option Elab.async false
set_option linter.all false
set_option maxRecDepth 100000
set_option maxHeartbeats 8000000
namespace Af
open PySem L2
abbrev s_l_error : Stmt := top 57
abbrev N_l_error : List Str := ["_law_caught", "_law_kinds"]
theorem sc_l_error : FnScope N_l_error ["_law_caught"] (defScope s_l_error) := ⟨rfl, rfl, rfl, by decide +kernel, rfl, by decide +kernel, by decide +kernel⟩

/-- the classes of errors: the law's eight -/
structure ErrK (K : PySem.W.Frag) (mg : Str → Option Value) (CF : Addr) (kc : Nat → Addr) : Prop where
  gF : mg "FallError" = some (.ref CF)
  g0 : mg "InvalidStep" = some (.ref (kc 0))
  g1 : mg "TooMany" = some (.ref (kc 1))
  g2 : mg "UnknownPiece" = some (.ref (kc 2))
  g3 : mg "Arrived" = some (.ref (kc 3))
  g4 : mg "TooEarly" = some (.ref (kc 4))
  g5 : mg "NothingToUndo" = some (.ref (kc 5))
  g6 : mg "InvalidPattern" = some (.ref (kc 6))
  g7 : mg "InvalidPlan" = some (.ref (kc 7))
  ex : ∀ j, j < 8 → PySem.W.exmOne K (.ref (kc j)) (.ref CF) = some true
  c : ∀ j, j < 8 → L2.ExcC K (kc j)
  is : ∀ i j, i < 8 → j < 8 → PySem.W.kitOne K (.ref (kc i)) (.ref (kc j)) = some (decide (i = j))
  vl : ∀ i, i < 8 → PySem.W.kitOne K (.ref (kc i)) (.type "ValueError") = some true
def wds : List Str := ["step", "many", "piece", "arrived", "early", "undo", "pattern", "plan"]
def flg (i : Nat) : List Bool := [decide (i = 0), decide (i = 1), decide (i = 2), decide (i = 3), decide (i = 4), decide (i = 5), decide (i = 6), decide (i = 7)]
theorem flg_count : ∀ i, i < 8 → (flg i).count true = 1 := by decide
theorem flg_at : ∀ i, i < 8 → (flg i)[i]? = some true := by decide
theorem flg_bef : ∀ i, i < 8 → ∀ m, m < i → (flg i)[m]? = some false := by decide
theorem wd_at : ∀ i, i < 8 → (wds.map V.str)[i]? = some (.str (wds.getD i "")) := by decide +kernel
def sp_error (K : PySem.W.Frag) (kc : Nat → Addr) : Sp := fun vs H Q _ => ∃ (b : Addr) (i : Nat), vs = [.ref b] ∧ i < 8 ∧ H b = some (HeldE (.ref (kc i)) none b) ∧ ∀ H', Same H H' → Q (.str (wds.getD i "")) H'
section
variable {P : Program} {w : World} {K : PySem.W.Frag} {mg : Str → Option Value} {base : Heap}
theorem ok_error {f CF : Addr} {kc : Nat → Addr} {fd : FuncData} (F : Fun K "_law_error" "_law_error" s_l_error f fd) (T : Txt mg) (t_ValueError : mg "ValueError" = none) (X : ErrK K mg CF kc) : FnOk P w K mg base CX0 1 f fd ["_law_caught"] (sp_error K kc) := by
  have g_0 := X.g0
  have g_1 := X.g1
  have g_2 := X.g2
  have g_3 := X.g3
  have g_4 := X.g4
  have g_5 := X.g5
  have g_6 := X.g6
  have g_7 := X.g7
  refine F.ok sc_l_error (fun vs H Q E h => ?_) (fun cdv A outer s H vs Q E hr h => ?_)
  · obtain ⟨_, _, rfl, _⟩ := h
    rfl
  obtain ⟨b, i, rfl, hi, hb, k⟩ := h
  refine ⟨_, (pss_cons (ps_set (i := 1) sc_l_error.nd rfl (Or.inl rfl) (pe_lst' (pa_cons (pe_callB call_isHeldE (by rfl) T.isinstance (by decide +kernel) (pa_cons (pv 0) (pa_cons (pe_glob (v := .ref (kc 0)) rfl g_0 rfl) pa_nil))) (pa_cons (pe_callB call_isHeldE (by rfl) T.isinstance (by decide +kernel) (pa_cons (pv 0) (pa_cons (pe_glob (v := .ref (kc 1)) rfl g_1 rfl) pa_nil))) (pa_cons (pe_callB call_isHeldE (by rfl) T.isinstance (by decide +kernel) (pa_cons (pv 0) (pa_cons (pe_glob (v := .ref (kc 2)) rfl g_2 rfl) pa_nil))) pa_nil)))))
    (pss_cons (ps_set (i := 1) sc_l_error.nd rfl (Or.inl rfl) (pe_op op_cat' (pv 1) (pe_lst' (pa_cons (pe_callB call_isHeldE (by rfl) T.isinstance (by decide +kernel) (pa_cons (pv 0) (pa_cons (pe_glob (v := .ref (kc 3)) rfl g_3 rfl) pa_nil))) (pa_cons (pe_callB call_isHeldE (by rfl) T.isinstance (by decide +kernel) (pa_cons (pv 0) (pa_cons (pe_glob (v := .ref (kc 4)) rfl g_4 rfl) pa_nil))) (pa_cons (pe_callB call_isHeldE (by rfl) T.isinstance (by decide +kernel) (pa_cons (pv 0) (pa_cons (pe_glob (v := .ref (kc 5)) rfl g_5 rfl) pa_nil))) pa_nil))))))
    (pss_cons (ps_set (i := 1) sc_l_error.nd rfl (Or.inl rfl) (pe_op op_cat' (pv 1) (pe_lst' (pa_cons (pe_callB call_isHeldE (by rfl) T.isinstance (by decide +kernel) (pa_cons (pv 0) (pa_cons (pe_glob (v := .ref (kc 6)) rfl g_6 rfl) pa_nil))) (pa_cons (pe_callB call_isHeldE (by rfl) T.isinstance (by decide +kernel) (pa_cons (pv 0) (pa_cons (pe_glob (v := .ref (kc 7)) rfl g_7 rfl) pa_nil))) pa_nil)))))
    (pss_cons (ps_cut (ps_if (PW.pt (pw_or (pt_cmpR op_ne (pe_bm PySem.F.plainAttrs_list PySem.F.slot_list_count PySem.F.type_list_count (mt_countT hr.u1) (pv 1) (pa_cons pe_bl pa_nil)) pe_int (nomark _)) (pw_or1 (pt_not (pt_val (pe_callB call_isHeldE (by rfl) T.isinstance (by decide +kernel) (pa_cons (pv 0) (pa_cons (pe_bltn (v := .ty "ValueError") (by rfl) t_ValueError (by decide +kernel) rfl) pa_nil))))))))
      (pss_one (ps_ret pe_str))
      pss_nil))
    (pss_one (ps_ret (pe_ix ix_seq' (pe_lst' (pa_cons pe_str (pa_cons pe_str (pa_cons pe_str (pa_cons pe_str (pa_cons pe_str (pa_cons pe_str (pa_cons pe_str (pa_cons pe_str pa_nil))))))))) (pe_bm PySem.F.plainAttrs_list PySem.F.slot_list_index PySem.F.type_list_index mt_index (pv 1) (pa_cons pe_bl pa_nil)) (fun _ _ => rfl)))))))), ?_⟩
  have c := X.c i hi
  refine ⟨_, rfl, _, c, b, _, _, _, rfl, hb, .own _, X.is i 0 hi (by decide), _, rfl, _, c, b, _, _, _, rfl, hb, .own _, X.is i 1 hi (by decide), _, rfl, _, c, b, _, _, _, rfl, hb, .own _, X.is i 2 hi (by decide), szr, fun k1 H1 n1 s1 h1 => ?_⟩
  have hb1 := s1 _ _ hb
  refine ⟨_, rfl, _, rfl, _, c, b, _, _, _, rfl, hb1, .own _, X.is i 3 hi (by decide), _, rfl, _, c, b, _, _, _, rfl, hb1, .own _, X.is i 4 hi (by decide), _, rfl, _, c, b, _, _, _, rfl, hb1, .own _, X.is i 5 hi (by decide), szr, fun k2 H2 n2 s2 h2 => ⟨k1, k2, _, _, rfl, rfl, s2 _ _ h1, h2, szr, fun k3 H3 n3 s3 h3 => ?_⟩⟩
  have hb3 := s3 _ _ (s2 _ _ hb1)
  refine ⟨_, rfl, _, rfl, _, c, b, _, _, _, rfl, hb3, .own _, X.is i 6 hi (by decide), _, rfl, _, c, b, _, _, _, rfl, hb3, .own _, X.is i 7 hi (by decide), szr, fun k4 H4 n4 s4 h4 => ⟨k3, k4, _, _, rfl, rfl, s4 _ _ h3, h4, szr, fun k5 H5 n5 s5 h5 => ?_⟩⟩
  have hb5 := s5 _ _ (s4 _ _ hb3)
  have S5 := s1.trans (s2.trans (s3.trans (s4.trans s5)))
  have h5 : H5 k5 = some (.lst ((flg i).map V.bl)) := h5
  refine ⟨fun σ' H' => σ' = [some (.ref b), some (.ref k5)] ∧ H' = H5, ?_, ?_⟩
  · refine ⟨_, rfl, .inl ⟨rfl, _, SqL.of h5⟩, k5, flg i, rfl, rfl, SqL.of h5, ?_⟩
    rw [flg_count i hi]
    refine ⟨rfl, _, rfl, iteF' (by decide) ?_⟩
    exact ⟨_, rfl, _, c, b, _, _, _, rfl, hb5, .ty "ValueError", X.vl i hi, _, rfl, iteF ⟨rfl, rfl⟩⟩
  rintro _ _ ⟨rfl, rfl⟩
  refine ⟨szr, fun tl H6 n6 s6 h6 => ⟨_, rfl, .inl ⟨rfl, _, SqL.of (s6 _ _ h5)⟩, k5, _, .bl true, i, .bl true, rfl, rfl, SqL.of (s6 _ _ h5), rfl, rfl, by rw [List.getElem?_map, flg_at i hi]; rfl, rfl, fun m z' hm hz => ?_, tl, _, _, _, rfl, rfl, .inl h6, atI_nat (wd_at i hi), k H6 (S5.trans s6)⟩⟩
  rw [List.getElem?_map, flg_bef i hi m hm] at hz
  cases hz
  rfl
end
end Af

set_option Elab.async false
set_option linter.all false
set_option maxRecDepth 100000
set_option maxHeartbeats 8000000
namespace Af
open PySem L2
abbrev s_l_outcome : Stmt := top 58
abbrev N_l_outcome : List Str := ["_law_store", "_law_call_here", "_law_caught", "_law_found", "e"]
theorem sc_l_outcome : FnScope N_l_outcome ["_law_store", "_law_call_here"] (defScope s_l_outcome) := ⟨rfl, rfl, rfl, by decide +kernel, rfl, by decide +kernel, by decide +kernel⟩

/-- the numbers of the errors of a call, of undo -/
def ek : Nat → Nat
  | 0 => 2
  | 1 => 3
  | 2 => 4
  | _ => 1
theorem ek8 (k : Nat) : ek k < 8 := by
  unfold ek
  split <;> decide
theorem wd_ek : ∀ k : Nat, wds.getD (ek k) "" = wdE k
  | 0 => rfl
  | 1 => rfl
  | 2 => rfl
  | _ + 3 => rfl
def outW (s : Sv) (cl : Cl) : Str := match exec s cl with
  | .inl _ => ""
  | .inr k => wdE k
def sp_outcome (S C R : Addr) : Sp := fun vs H Q _ => ∃ (L : List Addr) (x el t : Addr) (s : Sv) (es : List Sv), vs = [.ref x, .ref t] ∧ Lok R L H ∧
  ((∃ cl, StoreV S C R L H x el s es ∧ ClV H t cl ∧ ClG s.pl.cs.length cl ∧ es.length < 1000 ∧ ∀ p H', Fr [x, el] H H' → Lok R L H' → StoreV S C R L H' x el (nx s cl) (nxE s es cl) → H' p = some (.tup [.str (outW s cl), .non]) → Q (.ref p) H') ∨
   (H t = some (.tup [.str "undo"]) ∧ ((∃ s0, StoreV S C R L H x el s (es ++ [s0]) ∧ ∀ p H', Fr [x, el] H H' → Lok R L H' → StoreV S C R L H' x el s0 es → H' p = some (.tup [.str "", .non]) → Q (.ref p) H') ∨
     (StoreV S C R L H x el s [] ∧ ∀ p H', Same H H' → H' p = some (.tup [.str "undo", .non]) → Q (.ref p) H'))))
section
variable {P : Program} {w : World} {K : PySem.W.Frag} {mg : Str → Option Value} {base : Heap}
def tb_l_outcome (K : PySem.W.Frag) (S C R : Addr) (ec : Nat → Addr) (EN : Addr) (W : WX) : TS := tIfS (tTest (tOp (rIn K false) (tOp rIx' (tVar 1) (tC (.int 0))) (tTup' (tCons (tC (.str "write")) (tCons (tC (.str "barrier")) tNil)))))
  (tAsg (tIf (tTest (tOp rEq (tOp rIx' (tVar 1) (tC (.int 0))) (tC (.str "write")))) (tMethX R "write" (sp_wr S C R ec) (WE W) (tVar 0) (tCons (tOp rIx' (tVar 1) (tC (.int 1))) (tCons (tOp rIx' (tVar 1) (tC (.int 2))) tNil))) (tMethX R "barrier" (sp_bar S C R ec) (WE W) (tVar 0) tNil)) (gName 3))
  (tIfS (tTest (tOp (rIn K false) (tOp rIx' (tVar 1) (tC (.int 0))) (tTup' (tCons (tC (.str "arrive")) (tCons (tC (.str "lose")) tNil)))))
    (tAsg (tIf (tTest (tOp rEq (tOp rIx' (tVar 1) (tC (.int 0))) (tC (.str "arrive")))) (tMethX R "arrive" (sp_ari S C R ec) (WE W) (tVar 0) (tCons (tOp rIx' (tVar 1) (tC (.int 1))) tNil)) (tMethX R "lose" (sp_lose S C R) (fun _ => E0) (tVar 0) tNil)) (gName 3))
    (tAsg (tMethX R "undo" (sp_undo S C R EN) (WE W) (tVar 0) tNil) (gName 3)))
def ts_l_outcome (_ : Addr) (_ : Value) (_ : Option Addr) : TS := tAsg (tVar 4) (gName 2)
theorem ok_outcome {f S C R CF fW fB fA fL fU : Addr} {kc : Nat → Addr} {fd fdW fdB fdA fdL fdU : FuncData} (F : Fun K "_law_outcome" "_law_outcome" s_l_outcome f fd) (T : Txt mg) (TR : ObjC K mg "Store" R RN) (X : ErrK K mg CF kc)
    (M_wr : Meth K R "write" fW) (G_wr : FnOk P w K mg base (L2.CX P w) 10 fW fdW ["self", "first", "worths"] (sp_wr S C R (fun k => kc (ek k)))) (b_wr : Binds K fdW ["self", "first", "worths"] [])
    (M_bar : Meth K R "barrier" fB) (G_bar : FnOk P w K mg base (L2.CX P w) 10 fB fdB ["self"] (sp_bar S C R (fun k => kc (ek k)))) (b_bar : Binds K fdB ["self"] [])
    (M_ari : Meth K R "arrive" fA) (G_ari : FnOk P w K mg base (L2.CX P w) 10 fA fdA ["self", "piece"] (sp_ari S C R (fun k => kc (ek k)))) (b_ari : Binds K fdA ["self", "piece"] [])
    (M_lose : Meth K R "lose" fL) (G_lose : FnOk P w K mg base CX0 10 fL fdL ["self"] (sp_lose S C R)) (b_lose : Binds K fdL ["self"] [])
    (M_undo : Meth K R "undo" fU) (G_undo : FnOk P w K mg base (L2.CX P w) 1 fU fdU ["self"] (sp_undo S C R (kc 5))) (b_undo : Binds K fdU ["self"] [])
    (c_l_error : Cal P w K mg base 1 "_law_error" ["_law_caught"] (sp_error K kc)) : FnOk P w K mg base CX0 12 f fd ["_law_store", "_law_call_here"] (sp_outcome S C R) := by
  have g_FallError := X.gF
  obtain ⟨ec, eec⟩ : ∃ ec : Nat → Addr, ec = fun k => kc (ek k) := ⟨_, rfl⟩
  obtain ⟨EN, eEN⟩ : ∃ EN : Addr, EN = kc 5 := ⟨_, rfl⟩
  rw [← eec] at G_wr G_bar G_ari
  rw [← eEN] at G_undo
  refine F.ok sc_l_outcome (fun vs H Q E h => ?_) (fun cdv A outer s H vs Q E hr h => ?_)
  · obtain ⟨_, _, _, _, _, _, rfl, _⟩ := h
    rfl
  obtain ⟨L, x, el, t, sv, es, rfl, lk, hh⟩ := h
  refine ⟨_, (pss_cons (ps_set (i := 2) sc_l_outcome.nd rfl (Or.inl rfl) pe_non)
    (pss_cons (ps_set (i := 3) sc_l_outcome.nd rfl (Or.inl rfl) pe_non)
    (pss_cons (ps_try_hold (i := 4) (tb := tb_l_outcome K S C R ec EN) (ts := ts_l_outcome) (Wout := fun _ _ _ _ => False) rfl rfl sc_l_outcome.nd rfl rfl rfl ⟨rfl, by decide, .inl g_FallError⟩ takes0
      (fun W pn xe tk _ => (pss_one (ps_if (pt_cmpR (op_inK (K := K) rfl) (pe_ix ix_seq' (pv 1) pe_int (fun _ _ => rfl)) (pe_tup' (pa_cons pe_str (pa_cons pe_str pa_nil))) (by rfl))
      (pss_one (ps_set (i := 3) sc_l_outcome.nd rfl (Or.inl rfl) (pe_ifExp (pt_cmpR op_eq (pe_ix ix_seq' (pv 1) pe_int (fun _ _ => rfl)) pe_str (nomark _)) (pe_methX (pl := _) (pv 0) TR.cl M_wr G_wr (hr.mono (by decide)) b_wr (fun σ => passAt tk σ) (pa_cons (pe_ix ix_seq' (pv 1) pe_int (fun _ _ => rfl)) (pa_cons (pe_ix ix_seq' (pv 1) pe_int (fun _ _ => rfl)) pa_nil))) (pe_meth0X (pl := _) (pv 0) TR.cl M_bar G_bar (hr.mono (by decide)) b_bar (fun σ => passAt tk σ)))))
      (pss_one (ps_if (pt_cmpR (op_inK (K := K) rfl) (pe_ix ix_seq' (pv 1) pe_int (fun _ _ => rfl)) (pe_tup' (pa_cons pe_str (pa_cons pe_str pa_nil))) (by rfl))
      (pss_one (ps_set (i := 3) sc_l_outcome.nd rfl (Or.inl rfl) (pe_ifExp (pt_cmpR op_eq (pe_ix ix_seq' (pv 1) pe_int (fun _ _ => rfl)) pe_str (nomark _)) (pe_methX (pl := _) (pv 0) TR.cl M_ari G_ari (hr.mono (by decide)) b_ari (fun σ => passAt tk σ) (pa_cons (pe_ix ix_seq' (pv 1) pe_int (fun _ _ => rfl)) pa_nil)) (pe_meth0X (E := fun _ => E0) (pl := _) (pv 0) TR.cl M_lose G_lose (hr.mono (by decide)) b_lose pass0A))))
      (pss_one (ps_set (i := 3) sc_l_outcome.nd rfl (Or.inl rfl) (pe_meth0X (pl := _) (pv 0) TR.cl M_undo G_undo (hr.mono (by decide)) b_undo (fun σ => passAt tk σ)))))))))
      (fun a oe cls d pn hz hf => (pss_one (ps_set (i := 2) sc_l_outcome.nd rfl (Or.inl rfl) (pv 4)))))
    (pss_one (ps_ret (pe_ifExp (pt_cmpR op_isN (pv 2) pe_non (nomark _)) (pe_tup' (pa_cons pe_str (pa_cons (pv 3) pa_nil))) (pe_tup' (pa_cons (pe_cal c_l_error hr (pa_cons (pv 2) pa_nil)) (pa_cons pe_non pa_nil))))))))), ?_⟩
  rcases hh with ⟨cl, st, hc, gc, le, k'⟩ | ⟨ht, hh⟩
  · obtain ⟨dx, fs, nv, vs, hx, fl, hel, hn, hes⟩ := id st.ex
    cases cl with
    | wr f0 ws =>
      obtain ⟨b, ht, hb⟩ := hc
      refine ⟨_, rfl, t, _, 0, _, rfl, rfl, .inr ht, rfl, szr, fun u0 H0 n0 s0 h0 => ⟨u0, _, rfl, .inr (SqT.of h0), rfl, by decide, _, rfl, iteT' (by decide +kernel) ?_⟩⟩
      have S0 := s0
      have x0 := s0 _ _ hx
      have t0 := s0 _ _ ht
      refine ⟨_, rfl, t, _, 0, _, rfl, rfl, .inr t0, rfl, rfl, _, rfl, iteT' (by decide +kernel) ?_⟩
      refine ⟨_, rfl, x, dx, fs, rfl, x0, fl.no _ (by unfold RM; simp), _, rfl, t, _, 1, _, rfl, rfl, .inr t0, rfl, _, rfl, t, _, 2, _, rfl, rfl, .inr t0, rfl, L, x, el, b, sv, es, f0, ws, rfl, lk.same S0, st.same S0, S0 _ _ hb, gc, le, fun k e H1 s1 => by
      have q1 : nx sv (.wr f0 ws) = sv := by unfold nx; rw [show exec sv (.wr f0 ws) = .inr k from e]
      have q2 : nxE sv es (.wr f0 ws) = es := by unfold nxE; rw [show exec sv (.wr f0 ws) = .inr k from e]
      have q3 : outW sv (.wr f0 ws) = wdE k := by unfold outW; rw [show exec sv (.wr f0 ws) = .inr k from e]
      rw [q1, q2, q3] at k'
      refine ⟨true, by rw [eec]; exact X.ex _ (ek8 k), fun _ b na => ⟨_, rfl, ?_⟩, fun y => by cases y⟩
      have sb := (S0.trans s1).trans (same_new (o := HeldE (.ref (ec k)) none b) na)
      have hb : (L2.upd H1 b (HeldE (.ref (ec k)) none b)) b = some (HeldE (.ref (ec k)) none b) := upd_same
      rw [eec] at hb sb
      rw [eec]
      refine ⟨_, rfl, rfl, _, rfl, iteF ⟨_, rfl, b, ek k, rfl, ek8 k, hb, fun H2 s2 => ⟨szr, fun p H3 n3 s3 h3 => ?_⟩⟩⟩
      have S := sb.trans (s2.trans s3)
      rw [wd_ek] at h3
      exact k' p H3 (Fr.of S) (lk.same S) (st.same S) h3, fun s' e H1 f1 lk1 st1 => by
      have q1 : nx sv (.wr f0 ws) = s' := by unfold nx; rw [show exec sv (.wr f0 ws) = .inl s' from e]
      have q2 : nxE sv es (.wr f0 ws) = es ++ [sv] := by unfold nxE; rw [show exec sv (.wr f0 ws) = .inl s' from e]
      have q3 : outW sv (.wr f0 ws) = "" := by unfold outW; rw [show exec sv (.wr f0 ws) = .inl s' from e]
      rw [q1, q2, q3] at k'
      exact ⟨_, rfl, rfl, _, rfl, iteT ⟨_, rfl, szr, fun p H3 n3 s3 h3 => k' p H3 (((Fr.of S0).trans f1).trans (Fr.of s3)) (lk1.same s3) (st1.same s3) h3⟩⟩⟩
    | bar =>
      have ht : H t = some (.tup [.str "barrier"]) := hc
      refine ⟨_, rfl, t, _, 0, _, rfl, rfl, .inr ht, rfl, szr, fun u0 H0 n0 s0 h0 => ⟨u0, _, rfl, .inr (SqT.of h0), rfl, by decide, _, rfl, iteT' (by decide +kernel) ?_⟩⟩
      have S0 := s0
      have x0 := s0 _ _ hx
      have t0 := s0 _ _ ht
      refine ⟨_, rfl, t, _, 0, _, rfl, rfl, .inr t0, rfl, rfl, _, rfl, iteF' (by decide +kernel) ?_⟩
      refine ⟨_, rfl, x, dx, fs, rfl, x0, fl.no _ (by unfold RM; simp), L, x, el, sv, es, rfl, lk.same S0, st.same S0, le, fun k e H1 s1 => by
      have q1 : nx sv (.bar) = sv := by unfold nx; rw [show exec sv (.bar) = .inr k from e]
      have q2 : nxE sv es (.bar) = es := by unfold nxE; rw [show exec sv (.bar) = .inr k from e]
      have q3 : outW sv (.bar) = wdE k := by unfold outW; rw [show exec sv (.bar) = .inr k from e]
      rw [q1, q2, q3] at k'
      refine ⟨true, by rw [eec]; exact X.ex _ (ek8 k), fun _ b na => ⟨_, rfl, ?_⟩, fun y => by cases y⟩
      have sb := (S0.trans s1).trans (same_new (o := HeldE (.ref (ec k)) none b) na)
      have hb : (L2.upd H1 b (HeldE (.ref (ec k)) none b)) b = some (HeldE (.ref (ec k)) none b) := upd_same
      rw [eec] at hb sb
      rw [eec]
      refine ⟨_, rfl, rfl, _, rfl, iteF ⟨_, rfl, b, ek k, rfl, ek8 k, hb, fun H2 s2 => ⟨szr, fun p H3 n3 s3 h3 => ?_⟩⟩⟩
      have S := sb.trans (s2.trans s3)
      rw [wd_ek] at h3
      exact k' p H3 (Fr.of S) (lk.same S) (st.same S) h3, fun s' e H1 f1 lk1 st1 => by
      have q1 : nx sv (.bar) = s' := by unfold nx; rw [show exec sv (.bar) = .inl s' from e]
      have q2 : nxE sv es (.bar) = es ++ [sv] := by unfold nxE; rw [show exec sv (.bar) = .inl s' from e]
      have q3 : outW sv (.bar) = "" := by unfold outW; rw [show exec sv (.bar) = .inl s' from e]
      rw [q1, q2, q3] at k'
      exact ⟨_, rfl, rfl, _, rfl, iteT ⟨_, rfl, szr, fun p H3 n3 s3 h3 => k' p H3 (((Fr.of S0).trans f1).trans (Fr.of s3)) (lk1.same s3) (st1.same s3) h3⟩⟩⟩
    | lose =>
      have ht : H t = some (.tup [.str "lose"]) := hc
      refine ⟨_, rfl, t, _, 0, _, rfl, rfl, .inr ht, rfl, szr, fun u0 H0 n0 s0 h0 => ⟨u0, _, rfl, .inr (SqT.of h0), rfl, by decide, _, rfl, iteF' (by decide +kernel) ?_⟩⟩
      refine ⟨_, rfl, t, _, 0, _, rfl, rfl, .inr (s0 _ _ ht), rfl, szr, fun u1 H1 n1 s1 h1 => ⟨u1, _, rfl, .inr (SqT.of h1), rfl, by decide, _, rfl, iteT' (by decide +kernel) ?_⟩⟩
      have S0 := s0.trans s1
      have x0 := S0 _ _ hx
      have t0 := S0 _ _ ht
      refine ⟨_, rfl, t, _, 0, _, rfl, rfl, .inr t0, rfl, rfl, _, rfl, iteF' (by decide +kernel) ?_⟩
      refine ⟨_, rfl, x, dx, fs, rfl, x0, fl.no _ (by unfold RM; simp), L, x, el, sv, es, rfl, lk.same S0, st.same S0, le, fun H1 f1 lk1 st1 => ?_⟩
      exact ⟨_, rfl, rfl, _, rfl, iteT ⟨_, rfl, szr, fun p H3 n3 s3 h3 => k' p H3 (((Fr.of S0).trans f1).trans (Fr.of s3)) (lk1.same s3) (st1.same s3) h3⟩⟩
    | ari z =>
      have ht : H t = some (.tup [.str "arrive", .int z]) := hc
      refine ⟨_, rfl, t, _, 0, _, rfl, rfl, .inr ht, rfl, szr, fun u0 H0 n0 s0 h0 => ⟨u0, _, rfl, .inr (SqT.of h0), rfl, by decide, _, rfl, iteF' (by decide +kernel) ?_⟩⟩
      refine ⟨_, rfl, t, _, 0, _, rfl, rfl, .inr (s0 _ _ ht), rfl, szr, fun u1 H1 n1 s1 h1 => ⟨u1, _, rfl, .inr (SqT.of h1), rfl, by decide, _, rfl, iteT' (by decide +kernel) ?_⟩⟩
      have S0 := s0.trans s1
      have x0 := S0 _ _ hx
      have t0 := S0 _ _ ht
      refine ⟨_, rfl, t, _, 0, _, rfl, rfl, .inr t0, rfl, rfl, _, rfl, iteT' (by decide +kernel) ?_⟩
      refine ⟨_, rfl, x, dx, fs, rfl, x0, fl.no _ (by unfold RM; simp), _, rfl, t, _, 1, _, rfl, rfl, .inr t0, rfl, L, x, el, sv, es, z, rfl, lk.same S0, st.same S0, le, fun k e H1 s1 => by
      have q1 : nx sv (.ari z) = sv := by unfold nx; rw [show exec sv (.ari z) = .inr k from e]
      have q2 : nxE sv es (.ari z) = es := by unfold nxE; rw [show exec sv (.ari z) = .inr k from e]
      have q3 : outW sv (.ari z) = wdE k := by unfold outW; rw [show exec sv (.ari z) = .inr k from e]
      rw [q1, q2, q3] at k'
      refine ⟨true, by rw [eec]; exact X.ex _ (ek8 k), fun _ b na => ⟨_, rfl, ?_⟩, fun y => by cases y⟩
      have sb := (S0.trans s1).trans (same_new (o := HeldE (.ref (ec k)) none b) na)
      have hb : (L2.upd H1 b (HeldE (.ref (ec k)) none b)) b = some (HeldE (.ref (ec k)) none b) := upd_same
      rw [eec] at hb sb
      rw [eec]
      refine ⟨_, rfl, rfl, _, rfl, iteF ⟨_, rfl, b, ek k, rfl, ek8 k, hb, fun H2 s2 => ⟨szr, fun p H3 n3 s3 h3 => ?_⟩⟩⟩
      have S := sb.trans (s2.trans s3)
      rw [wd_ek] at h3
      exact k' p H3 (Fr.of S) (lk.same S) (st.same S) h3, fun s' e H1 f1 lk1 st1 => by
      have q1 : nx sv (.ari z) = s' := by unfold nx; rw [show exec sv (.ari z) = .inl s' from e]
      have q2 : nxE sv es (.ari z) = es ++ [sv] := by unfold nxE; rw [show exec sv (.ari z) = .inl s' from e]
      have q3 : outW sv (.ari z) = "" := by unfold outW; rw [show exec sv (.ari z) = .inl s' from e]
      rw [q1, q2, q3] at k'
      exact ⟨_, rfl, rfl, _, rfl, iteT ⟨_, rfl, szr, fun p H3 n3 s3 h3 => k' p H3 (((Fr.of S0).trans f1).trans (Fr.of s3)) (lk1.same s3) (st1.same s3) h3⟩⟩⟩
  have ref : ∃ dx fs, H x = some (.ins R dx fs) ∧ fs.lookup ("undo" : Str) = none := by
    rcases hh with ⟨s0, st, _⟩ | ⟨st, _⟩ <;> (obtain ⟨dx, fs, nv, vs, hx, fl, _⟩ := st.ex; exact ⟨dx, fs, hx, fl.no _ (by unfold RM; simp)⟩)
  obtain ⟨dx, fs, hx, nu⟩ := ref
  refine ⟨_, rfl, t, _, 0, _, rfl, rfl, .inr ht, rfl, szr, fun u0 H0 n0 s0 h0 => ⟨u0, _, rfl, .inr (SqT.of h0), rfl, by decide, _, rfl, iteF' (by decide +kernel) ?_⟩⟩
  refine ⟨_, rfl, t, _, 0, _, rfl, rfl, .inr (s0 _ _ ht), rfl, szr, fun u1 H1 n1 s1 h1 => ⟨u1, _, rfl, .inr (SqT.of h1), rfl, by decide, _, rfl, iteF' (by decide +kernel) ?_⟩⟩
  have S0 := s0.trans s1
  refine ⟨_, rfl, x, dx, fs, rfl, S0 _ _ hx, nu, L, x, el, sv, rfl, lk.same S0, ?_⟩
  rcases hh with ⟨s0', st, k'⟩ | ⟨st, k'⟩
  · refine .inl ⟨s0', es, st.same S0, fun H1 f1 lk1 st1 => ?_⟩
    exact ⟨_, rfl, rfl, _, rfl, iteT ⟨_, rfl, szr, fun p H3 n3 s3 h3 => k' p H3 (((Fr.of S0).trans f1).trans (Fr.of s3)) (lk1.same s3) (st1.same s3) h3⟩⟩
  · refine .inr ⟨st.same S0, fun H1 s1 => ?_⟩
    refine ⟨true, by rw [eEN]; exact X.ex _ (by decide), fun _ b na => ⟨_, rfl, ?_⟩, fun y => by cases y⟩
    have sb := (S0.trans s1).trans (same_new (o := HeldE (.ref EN) none b) na)
    have hb : (L2.upd H1 b (HeldE (.ref EN) none b)) b = some (HeldE (.ref EN) none b) := upd_same
    rw [eEN] at hb sb
    rw [eEN]
    exact ⟨_, rfl, rfl, _, rfl, iteF ⟨_, rfl, b, 5, rfl, by decide, hb, fun H2 s2 => ⟨szr, fun p H3 n3 s3 h3 => k' p H3 (sb.trans (s2.trans s3)) h3⟩⟩⟩
end
end Af

set_option Elab.async false
set_option linter.all false
set_option maxRecDepth 100000
set_option maxHeartbeats 8000000
namespace Af
open PySem L2
abbrev s_Plan___eq : Stmt := inClass (top 29) 9
abbrev N_Plan___eq : List Str := ["self", "other"]
theorem sc_Plan___eq : FnScope N_Plan___eq ["self", "other"] (defScope s_Plan___eq) := ⟨rfl, rfl, rfl, by decide +kernel, rfl, by decide +kernel, by decide +kernel⟩

abbrev s_l_called : Stmt := top 59
abbrev N_l_called : List Str := ["_law_store", "_law_pages", "_law_call_here", "_law_page_here", "_law_seen", "_law_due"]
theorem sc_l_called : FnScope N_l_called ["_law_store", "_law_pages", "_law_call_here"] (defScope s_l_called) := ⟨rfl, rfl, rfl, by decide +kernel, rfl, by decide +kernel, by decide +kernel⟩

theorem first_own {K : PySem.W.Frag} {C : Addr} : PySem.W.notFirst K C (.ref C) = true := by
  unfold PySem.W.notFirst
  simp
theorem PageV.same {H H' : Hp} {x : V} {pl : Pl} {fs : List Nat} (h : PageV H x pl fs) (m : Same H H') : PageV H' x pl fs := by
  obtain ⟨sa, fa, q⟩ := h.x
  exact (q.same m).v
section
variable {K : PySem.W.Frag} {mg : Str → Option Value} {C p : Addr} {H : Hp} {x y : V} {pl pl' : Pl} {n : String} {Q : VK}
theorem ne_ins (T : PlanC K mg C) (hx : PlanI p C H x pl) (hy : PlanI p C H y pl') (q : Q (.bl (!samePl pl pl')) H) : rOwnNe K C (sp_eq K C) x y H Q := by
  obtain ⟨a, dx, _, _, fs, _, rfl, h1, _⟩ := hx.ex
  obtain ⟨b, dy, _, _, gs, _, rfl, g1, _⟩ := hy.ex
  exact ⟨a, dx, fs, _, rfl, h1, T.ty g1, first_own, p, _, _, pl, rfl, hx, .inl ⟨pl', hy, _, rfl, q⟩⟩
end
theorem in2 {P : Addr → Prop} {a b : Addr} (h1 : P a) (h2 : P b) : ∀ c ∈ [a, b], P c := fun c m => by
  simp only [List.mem_cons, List.not_mem_nil, or_false] at m
  rcases m with rfl | rfl
  · exact h1
  · exact h2
theorem m2 {a b c : Addr} : ∀ z ∈ [a, b], z ∈ [a, b, c] := in2 (by simp) (by simp)
theorem m1 {a b c : Addr} : ∀ z ∈ [c], z ∈ [a, b, c] := fun z m => by rw [List.mem_singleton.mp m]; simp
/-- a store and the law's pages -/
structure DuoV (S C R : Addr) (L : List Addr) (H : Hp) (x el pg : Addr) (s : Sv) (es : List Sv) : Prop where
  lk : Lok R L H
  st : StoreV S C R L H x el s es
  pm : pg ∈ L
  ne : pg ≠ el
  pl : ∃ xs, H pg = some (.lst xs) ∧ Paired (fun v (u : Sv) => PageV (hl L H) v u.pl u.came) xs (es ++ [s])
  ok : ∀ u ∈ es ++ [s], PgOk u
theorem DuoV.nx {S C R : Addr} {L : List Addr} {H : Hp} {x el pg : Addr} {s : Sv} {es : List Sv} (d : DuoV S C R L H x el pg s es) : pg ≠ x := fun e => by
  obtain ⟨dx, fs, nv, vs, hx, _⟩ := d.st.ex
  obtain ⟨xs, h, _⟩ := d.pl
  rw [e, hx] at h
  cases h
theorem DuoV.same {S C R : Addr} {L : List Addr} {H H' : Hp} {x el pg : Addr} {s : Sv} {es : List Sv} (d : DuoV S C R L H x el pg s es) (m : Same H H') : DuoV S C R L H' x el pg s es := by
  obtain ⟨xs, h, q⟩ := d.pl
  have sL := hl_same (L := L) m
  exact ⟨d.lk.same m, d.st.same m, d.pm, d.ne, ⟨xs, m _ _ h, L2.Paired.mapP q fun _ _ z => z.same sL⟩, d.ok⟩
/-- the data of calls -/
def clD : Cl → PyData
  | .wr f ws => .tuple [.str "write", .int f, .tuple (dvs ws)]
  | .bar => .tuple [.str "barrier"]
  | .lose => .tuple [.str "lose"]
  | .ari z => .tuple [.str "arrive", .int z]
theorem bd_str : ∀ w ∈ (["write", "barrier", "lose", "arrive"] : List Str), Bd 1200 2 (.str w) := fun w m => by
  simp only [List.mem_cons, List.not_mem_nil, or_false] at m
  rcases m with rfl | rfl | rfl | rfl <;> exact ⟨by decide +kernel, rfl, by decide⟩
theorem bd_int {z : Int} (h : 0 ≤ z ∧ z ≤ 64) : Bd 1200 2 (.int z) := (Bd.flat (flat_place h)).mono (by decide) (by decide)
theorem bd_cl {n : Nat} (hn : n ≤ 24) {cl : Cl} (g : ClG n cl) : Bd 10000 3 (clD cl) := by
  have go : ∀ {ds : List PyData}, ds.length ≤ 3 → (∀ d ∈ ds, Bd 1200 2 d) → Bd 10000 3 (.tuple ds) := fun h q => (Bd.tup q h).mono (by decide) (by decide)
  cases cl with
  | wr f ws =>
    obtain ⟨o1, o2, o3, o4⟩ := g
    refine go (show 3 ≤ 3 by decide) fun d hd => ?_
    simp only [List.mem_cons, List.not_mem_nil, or_false] at hd
    rcases hd with rfl | rfl | rfl
    · exact bd_str _ (by simp)
    · exact bd_int ⟨o1, by omega⟩
    · refine (Bd.tup (b := 45) (n := 1) (k := 24) (fun d hd => ?_) (by unfold dvs; rw [List.length_map]; omega)).mono (by decide) (by decide)
      obtain ⟨z, hz, rfl⟩ := dvs_mem hd
      exact Bd.flat (flat_small (o4 z hz))
  | bar => exact go (by decide) fun d hd => by rw [List.mem_singleton.mp hd]; exact bd_str _ (by simp)
  | lose => exact go (by decide) fun d hd => by rw [List.mem_singleton.mp hd]; exact bd_str _ (by simp)
  | ari z =>
    refine go (show 2 ≤ 3 by decide) fun d hd => ?_
    simp only [List.mem_cons, List.not_mem_nil, or_false] at hd
    rcases hd with rfl | rfl
    · exact bd_str _ (by simp)
    · exact bd_int g
theorem dx_cl {K : PySem.W.Frag} {H : Hp} {t : Addr} {cl : Cl} (h : ClV H t cl) : Dx K H (.ref t) (clD cl) := by
  cases cl with
  | wr f ws =>
    obtain ⟨b, h1, h2⟩ := h
    exact .tup h1 (.cons (.str _) (.cons (.int _) (.cons (Dx.of (.tup h2 (dq_ints _))) .nil)))
  | bar => exact .tup h (.cons (.str _) .nil)
  | lose => exact .tup h (.cons (.str _) .nil)
  | ari z => exact .tup h (.cons (.str _) (.cons (.int _) .nil))
theorem clv_hd {H : Hp} {t : Addr} {cl : Cl} (h : ClV H t cl) : ∃ w rest, H t = some (.tup (.str w :: rest)) ∧ w ∈ (["write", "barrier", "lose", "arrive"] : List Str) := by
  cases cl with
  | wr f ws =>
    obtain ⟨b, h1, h2⟩ := h
    exact ⟨_, _, h1, by simp⟩
  | bar => exact ⟨_, _, h, by simp⟩
  | lose => exact ⟨_, _, h, by simp⟩
  | ari z => exact ⟨_, _, h, by simp⟩
theorem no_undo : ∀ w ∈ (["write", "barrier", "lose", "arrive"] : List Str), decide (V.str w = V.str "undo") = false := by decide +kernel
def pairD (w : Str) : PyData := .tuple [.str w, .none]
theorem pair_sh : ∀ w ∈ (["", "piece", "arrived", "early", "many", "undo"] : List Str), PySem.SeqAt.shaped (pairD w) = true ∧ PyData.eqv (pairD w) (pairD w) = true := by decide +kernel
theorem outW_in (s : Sv) (cl : Cl) : outW s cl ∈ (["", "piece", "arrived", "early", "many", "undo"] : List Str) := by
  unfold outW
  cases exec s cl with
  | inl s' => simp
  | inr k =>
    show wdE k ∈ _
    unfold wdE
    split <;> simp
theorem dp_pair {K : PySem.W.Frag} {H : Hp} {p : Addr} {w : Str} (h : H p = some (.tup [.str w, .non])) : Dp K H (.ref p) (pairD w) := .tup (SqT.of h) (.cons (.str _) (.cons .non .nil))
theorem wdE_ne (k : Nat) : decide (V.str (wdE k) = V.str "") = false := by
  unfold wdE
  split <;> decide +kernel
def sp_called (S C R : Addr) : Sp := fun vs H Q _ => ∃ (L : List Addr) (x el pg t : Addr) (s : Sv) (es : List Sv), vs = [.ref x, .ref pg, .ref t] ∧ DuoV S C R L H x el pg s es ∧ es.length < 900 ∧
  ((∃ cl, ClV H t cl ∧ ClG s.pl.cs.length cl ∧ ∀ H', Fr [x, el, pg] H H' → DuoV S C R L H' x el pg (nx s cl) (nxE s es cl) → Q (.bl true) H') ∨
   (H t = some (.tup [.str "undo"]) ∧ ((es = [] ∧ ∀ H', Same H H' → Q (.bl true) H') ∨ (∃ es0 s0, es = es0 ++ [s0] ∧ ∀ H', Fr [x, el, pg] H H' → DuoV S C R L H' x el pg s0 es0 → Q (.bl true) H'))))
section
variable {P : Program} {w : World} {K : PySem.W.Frag} {mg : Str → Option Value} {base : Heap}
theorem ok_eq {f C : Addr} {fd : FuncData} (F : Fun K "__eq__" "Plan.__eq__" s_Plan___eq f fd) (T : Txt mg) (TC : PlanC K mg C) : FnOk P w K mg base CX0 1 f fd ["self", "other"] (sp_eq K C) := by
  have c_Plan := TC.mgC
  refine F.ok sc_Plan___eq (fun vs H Q E h => ?_) (fun cdv A outer s H vs Q E hr h => ?_)
  · obtain ⟨_, _, _, _, rfl, _⟩ := h
    rfl
  obtain ⟨p, x, y, pl, rfl, hx, k⟩ := h
  refine ⟨_, (pss_one (ps_ret (pe_and (pe_callB call_isi (by rfl) T.isinstance (by decide +kernel) (pa_cons (pv 1) (pa_cons (pe_glob (v := .ref C) rfl c_Plan rfl) pa_nil))) (pe_and (pe_cmpR (op_eqD hr.units) (pe_fld (pv 0) rfl) (pe_fld (pv 1) rfl) (nomark _)) (pe_and (pe_cmpR (op_eqD hr.units) (pe_fld (pv 0) rfl) (pe_fld (pv 1) rfl) (nomark _)) (pe_one (pe_cmpR (op_eqD hr.units) (pe_fld (pv 0) rfl) (pe_fld (pv 1) rfl) (nomark _)))))))), ?_⟩
  obtain ⟨a, dx, ca, sl, fs, xs, rfl, h1, l1, l2, l3, h2, n, h3, h4⟩ := hx.ex
  rcases k with ⟨pl', hy, k⟩ | ⟨m, t, k⟩
  · obtain ⟨b, dy, cb, tl, gs, ys, rfl, g1, m1, m2, m3, g2, n2, g3, g4⟩ := hy.ex
    refine ⟨_, rfl, .ref b, .ref C, _, _, true, rfl, .own C, TC.ty g1, TC.is1, ?_⟩
    refine ⟨_, rfl, iteT ?_⟩
    refine ⟨_, rfl, a, C, dx, fs, _, rfl, h1, TC.cl, TC.nB, l1, _, rfl, b, C, dy, gs, _, rfl, g1, TC.cl, TC.nB, m1, ?_⟩
    refine ⟨_, _, .tup (SqT.of h2) (dp_ints _), .tup (SqT.of g2) (dp_ints _), sh_ints _, sh_ints _, _, rfl, ?_⟩
    cases e1 : PyData.eqv (.tuple (dvs pl.cs)) (.tuple (dvs pl'.cs)) with
    | false =>
      refine iteF ?_
      have : samePl pl pl' = false := by unfold samePl; rw [e1]; rfl
      rw [this] at k
      exact k
    | true =>
      refine iteT ?_
      refine ⟨_, rfl, a, C, dx, fs, _, rfl, h1, TC.cl, TC.nW, l2, _, rfl, b, C, dy, gs, _, rfl, g1, TC.cl, TC.nW, m2, ?_⟩
      refine ⟨_, _, .int _, .int _, sh_int _, sh_int _, _, rfl, ?_⟩
      cases e2 : PyData.eqv (.int pl.w) (.int pl'.w) with
      | false =>
        refine iteF ?_
        have : samePl pl pl' = false := by unfold samePl; rw [e1, e2]; rfl
        rw [this] at k
        exact k
      | true =>
        refine iteT ?_
        refine ⟨_, rfl, a, C, dx, fs, _, rfl, h1, TC.cl, TC.nS, l3, _, rfl, b, C, dy, gs, _, rfl, g1, TC.cl, TC.nS, m3, ?_⟩
        refine ⟨_, _, .lst (SqL.of h3) (dp_steps h4), .lst (SqL.of g3) (dp_steps g4), sh_steps _, sh_steps _, ?_⟩
        have : samePl pl pl' = PyData.eqv (.list (stepsD pl.sts)) (.list (stepsD pl'.sts)) := by unfold samePl; rw [e1, e2]; rfl
        rw [this] at k
        exact k
  · refine ⟨_, rfl, y, .ref C, _, _, false, rfl, .own C, .base t.ty, TC.is0 m t.mem, ?_⟩
    exact ⟨_, rfl, iteF k⟩
theorem ok_called {f S C R : Addr} {fd : FuncData} (F : Fun K "_law_called" "_law_called" s_l_called f fd) (T : Txt mg) (t_repr : mg "repr" = none) (t_dict : mg "dict" = none) (TR : ObjC K mg "Store" R RN) (c_l_outcome : Cal P w K mg base 12 "_law_outcome" ["_law_store", "_law_call_here"] (sp_outcome S C R))
    (c_l_store_due : Cal P w K mg base 3 "_law_store_due" ["_law_page_here", "_law_call_here"] (sp_due K)) : FnG P w K mg base 13 f fd ["_law_store", "_law_pages", "_law_call_here"] (sp_called S C R) := by
  refine okG F sc_l_called (fun vs H Q E h => ?_) (fun cdv A outer s H vs Q E hr hg h => ?_)
  · obtain ⟨_, _, _, _, _, _, _, rfl, _⟩ := h
    rfl
  obtain ⟨L, x, el, pg, t, sv, es, rfl, d, le, hh⟩ := h
  refine ⟨_, (pss_cons (ps_if (pt_cmpR op_eq (pe_ix ix_seq' (pv 2) pe_int (fun _ _ => rfl)) pe_str (nomark _))
      (pss_cons (ps_if (pt_cmpR op_eq (pe_callB call_len' (by rfl) T.len (by decide +kernel) (pa_cons (pv 1) pa_nil)) pe_int (nomark _))
      (pss_one (ps_ret (pe_cmpR (op_eqD hr.units) (pe_cal c_l_outcome hr (pa_cons (pv 0) (pa_cons (pv 2) pa_nil))) (pe_tup' (pa_cons pe_str (pa_cons pe_non pa_nil))) (nomark _))))
      pss_nil)
    (pss_cons (ps_expr (pe_bm0 PySem.F.plainAttrs_list PySem.F.slot_list_pop PySem.F.type_list_pop mt_pop (pv 1)))
    (pss_one (ps_ret (pe_cmpR (op_eqD hr.units) (pe_cal c_l_outcome hr (pa_cons (pv 0) (pa_cons (pv 2) pa_nil))) (pe_tup' (pa_cons pe_str (pa_cons pe_non pa_nil))) (nomark _))))))
      pss_nil)
    (pss_cons (ps_par (i := 3) (j := 4) rfl sc_l_called.nd rfl rfl (by decide) rfl rfl (pa_cons (pe_callTy call_dictD (by rfl) t_dict (by decide +kernel) (pa_cons (pe_ix ix_seq' (pv 1) (pe_un un_neg pe_int) (fun _ _ => rfl)) pa_nil)) (pa_cons (pe_callB (call_reprX hg hr.units) (by rfl) t_repr (by decide +kernel) (pa_cons (pv 2) pa_nil)) pa_nil)) (by rfl))
    (pss_cons (ps_set (i := 5) sc_l_called.nd rfl (Or.inl rfl) (pe_cal c_l_store_due hr (pa_cons (pv 3) (pa_cons (pv 2) pa_nil))))
    (pss_cons (ps_cut (ps_if (PW.pt (pw_or (pt_cmpR (op_neD hr.units) (pe_cal c_l_outcome hr (pa_cons (pv 0) (pa_cons (pv 2) pa_nil))) (pe_tup' (pa_cons (pv 5) (pa_cons pe_non pa_nil))) (nomark _)) (pw_or1 (pt_cmpR op_ne (pe_callB (call_reprX hg hr.units) (by rfl) t_repr (by decide +kernel) (pa_cons (pv 2) pa_nil)) (pv 4) (nomark _)))))
      (pss_one (ps_ret pe_bl))
      pss_nil))
    (pss_cons (ps_cut (ps_if (pt_cmpR op_eq (pv 5) pe_str (nomark _))
      (pss_one (ps_expr (pe_bm PySem.F.plainAttrs_list PySem.F.slot_list_append PySem.F.type_list_append mt_append (pv 1) (pa_cons (pv 3) pa_nil))))
      pss_nil))
    (pss_one (ps_ret pe_bl))))))), ?_⟩
  obtain ⟨xs, hpg, hps⟩ := d.pl
  have xl : xs.length = es.length + 1 := by rw [paired_len hps, List.length_append]; rfl
  rcases hh with ⟨cl, hc, gc, kQ⟩ | ⟨ht, hh⟩
  · obtain ⟨wv, rest, ht, hw⟩ := clv_hd hc
    refine ⟨_, rfl, t, _, 0, _, rfl, rfl, .inr ht, atI_nat (j := 0) rfl, rfl, _, rfl, iteF' (no_undo wv hw) ?_⟩
    obtain ⟨us, u, rfl, hus, hu⟩ := paired_snoc hps
    have g := d.ok sv (List.mem_append.mpr (.inr (List.mem_singleton.mpr rfl)))
    have bd := bd_cl g.pl.c24 gc
    obtain ⟨sa, fa, hux⟩ := hu.x
    obtain ⟨pg0, rows, tr, ca, xs0, rfl, h0, vp, vc, htr, hca, hsa, hst, hf, r10⟩ := id hux
    have nsa := hl_not hsa
    have nfa := hl_not hf
    refine ⟨_, rfl, _, rfl, pg, _, -1, _, rfl, rfl, .inl hpg, at_end, pg0, rows, rfl, .inl (hl_in _ _ h0), fun p np => ?_⟩
    have s1 : Same H (upd H p (.dK rows)) := same_new np
    have hp1 : (upd H p (.dK rows)) p = some (.dK rows) := upd_same
    generalize upd H p (.dK rows) = H1 at s1 hp1 ⊢
    have px : PageX H1 (.ref p) sv.pl sv.came sa fa := ⟨p, rows, tr, ca, xs0, rfl, hp1, vp, vc, s1 _ _ (hl_in _ _ htr), s1 _ _ (hl_in _ _ hca), s1 _ _ (hl_in _ _ hsa), steps_same s1 (steps_same hl_in hst), s1 _ _ (hl_in _ _ hf), r10⟩
    refine ⟨_, rfl, .ref t, clD cl, rfl, dx_cl (hc.same s1), bd.sh, Nat.le_trans bd.dp (by decide), Nat.le_trans bd.tx (by decide), ⟨_, _, rfl, ?_⟩⟩
    refine ⟨_, rfl, _, rfl, p, t, sa, fa, sv, cl, rfl, px, g, hc.same s1, gc, fun k e H2 s2 => ?_, fun s' e H2 sa' fa' f2 osa ofa px2 => ?_⟩
    · have ow : outW sv cl = wdE k := by unfold outW; rw [e]
      have q1 : nx sv cl = sv := by unfold nx; rw [e]
      have q2 : nxE sv es cl = es := by unfold nxE; rw [e]
      have S2 : Same H H2 := s1.trans s2
      have lk2 := d.lk.same S2
      have st2 := d.st.same S2
      have hc2 := hc.same S2
      refine ⟨fun σ' H' => σ' = [some (.ref x), some (.ref pg), some (.ref t), some (.ref p), some (.str (clD cl).shown), some (.str (outW sv cl))] ∧ Fr [x, el] H2 H' ∧ Lok R L H' ∧ StoreV S C R L H' x el (nx sv cl) (nxE sv es cl), ?_, ?_⟩
      · refine ⟨_, rfl, _, rfl, L, x, el, t, sv, es, rfl, lk2, .inl ⟨cl, st2, hc2, gc, by omega, fun q H3 f3 lk3 st3 h3 => ⟨_, rfl, szr, fun q2 H4 n4 s4 h4 => ⟨pairD (outW sv cl), pairD (outW sv cl), dp_pair (s4 _ _ h3), dp_pair (by rw [h4, ow]), (pair_sh _ (outW_in sv cl)).1, (pair_sh _ (outW_in sv cl)).1, _, rfl, iteF' (by rw [(pair_sh _ (outW_in sv cl)).2]; rfl) ?_⟩⟩⟩⟩
        have hc4 := (hc2.fr lk2 (f3.mono (in2 st2.xm st2.em))).same s4
        refine ⟨_, rfl, .ref t, clD cl, rfl, dx_cl hc4, bd.sh, Nat.le_trans bd.dp (by decide), Nat.le_trans bd.tx (by decide), ?_⟩
        refine ⟨_, rfl, rfl, _, rfl, iteF' (by simp) ⟨?_, f3.trans (Fr.of s4), lk3.same s4, st3.same s4⟩⟩
        rw [ow]
        rfl
      rintro _ H4 ⟨rfl, f4, lk4, st4⟩
      refine ⟨fun σ' H' => H' = H4, ?_, ?_⟩
      · exact ⟨_, rfl, rfl, _, rfl, iteF' (by rw [ow]; exact wdE_ne k) rfl⟩
      rintro _ H5 e5
      rw [e5]
      have fr : Fr [x, el] H H4 := (Fr.of S2).trans f4
      refine kQ _ (fr.mono m2) ⟨lk4, st4, d.pm, d.ne, ?_, ?_⟩
      · rw [q1, q2]
        have np2 : pg ∉ [x, el] := fun m => by
          simp only [List.mem_cons, List.not_mem_nil, or_false] at m
          rcases m with e | e
          · exact d.nx e
          · exact d.ne e
        exact ⟨_, fr _ _ np2 hpg, L2.Paired.mapP hps fun _ _ z => z.same (fr.hl (in2 st2.xm st2.em))⟩
      · rw [q1, q2]
        exact d.ok
    · have ow : outW sv cl = "" := by unfold outW; rw [e]
      have q1 : nx sv cl = s' := by unfold nx; rw [e]
      have q2 : nxE sv es cl = es ++ [sv] := by unfold nxE; rw [e]
      have S2 : Same H H2 := fun b o eb => f2 _ _ (fun m => by rw [List.mem_singleton.mp m, np] at eb; cases eb) (s1 _ _ eb)
      have lk2 := d.lk.same S2
      have st2 := d.st.same S2
      have hc2 := hc.same S2
      refine ⟨fun σ' H' => σ' = [some (.ref x), some (.ref pg), some (.ref t), some (.ref p), some (.str (clD cl).shown), some (.str (outW sv cl))] ∧ Fr [x, el] H2 H' ∧ Lok R L H' ∧ StoreV S C R L H' x el (nx sv cl) (nxE sv es cl), ?_, ?_⟩
      · refine ⟨_, rfl, _, rfl, L, x, el, t, sv, es, rfl, lk2, .inl ⟨cl, st2, hc2, gc, by omega, fun q H3 f3 lk3 st3 h3 => ⟨_, rfl, szr, fun q2 H4 n4 s4 h4 => ⟨pairD (outW sv cl), pairD (outW sv cl), dp_pair (s4 _ _ h3), dp_pair (by rw [h4, ow]), (pair_sh _ (outW_in sv cl)).1, (pair_sh _ (outW_in sv cl)).1, _, rfl, iteF' (by rw [(pair_sh _ (outW_in sv cl)).2]; rfl) ?_⟩⟩⟩⟩
        have hc4 := (hc2.fr lk2 (f3.mono (in2 st2.xm st2.em))).same s4
        refine ⟨_, rfl, .ref t, clD cl, rfl, dx_cl hc4, bd.sh, Nat.le_trans bd.dp (by decide), Nat.le_trans bd.tx (by decide), ?_⟩
        refine ⟨_, rfl, rfl, _, rfl, iteF' (by simp) ⟨?_, f3.trans (Fr.of s4), lk3.same s4, st3.same s4⟩⟩
        rw [ow]
        rfl
      rintro _ H4 ⟨rfl, f4, lk4, st4⟩
      have fr : Fr [x, el] H H4 := (Fr.of S2).trans f4
      have np2 : pg ∉ [x, el] := fun m => by
        simp only [List.mem_cons, List.not_mem_nil, or_false] at m
        rcases m with e | e
        · exact d.nx e
        · exact d.ne e
      have hpg4 := fr _ _ np2 hpg
      have px4 : PageV (hl L H4) (.ref p) s'.pl s'.came := by
        have o1 : sa' ∉ L := by
          rcases osa with rfl | n
          · exact nsa
          · exact d.lk.new (s1.free n)
        have o2 : fa' ∉ L := by
          rcases ofa with rfl | n
          · exact nfa
          · exact d.lk.new (s1.free n)
        exact ((px2.hl lk2 o1 o2).same (f4.hl (in2 st2.xm st2.em))).v
      refine ⟨fun σ' H' => H' = upd H4 pg (.lst (us ++ [.ref pg0] ++ [.ref p])), ?_, ?_⟩
      · refine ⟨_, rfl, rfl, _, rfl, iteT' (by rw [ow]; decide +kernel) ?_⟩
        exact ⟨_, rfl, .inl ⟨rfl, _, SqL.of hpg4⟩, _, rfl, pg, _, _, rfl, rfl, hpg4, szl (by omega), rfl⟩
      rintro _ _ rfl
      have f5 : Fr [pg] H4 (upd H4 pg (.lst (us ++ [.ref pg0] ++ [.ref p]))) := Fr.refl.upd (by simp)
      have pmL : ∀ a ∈ [pg], a ∈ L := fun a m => by rw [List.mem_singleton.mp m]; exact d.pm
      refine kQ _ ((fr.mono m2).trans (f5.mono m1)) ⟨lk4.upd (.inl ⟨_, rfl⟩), st4.fr f5 pmL (fun m => d.nx (List.mem_singleton.mp m).symm) (fun m => d.ne (List.mem_singleton.mp m).symm), d.pm, d.ne, ⟨_, upd_same, ?_⟩, ?_⟩
      · rw [q1, q2]
        exact paired_app (L2.Paired.mapP hps fun _ _ z => (z.same (fr.hl (in2 st2.xm st2.em))).same (f5.hl pmL)) (.cons (px4.same (f5.hl pmL)) .nil)
      · rw [q1, q2]
        intro v m
        rcases List.mem_append.mp m with m | m
        · exact d.ok v m
        · rw [List.mem_singleton.mp m]
          exact pg_nx g gc e
  · refine ⟨_, rfl, t, _, 0, _, rfl, rfl, .inr ht, rfl, rfl, _, rfl, iteT' (by decide +kernel) ?_⟩
    rcases hh with ⟨rfl, kQ⟩ | ⟨es0, s0, rfl, kQ⟩
    · refine ⟨_, rfl, pg, _, rfl, .inl hpg, rfl, _, rfl, iteT' (by rw [xl]; decide) ?_⟩
      refine ⟨_, rfl, _, rfl, L, x, el, t, sv, [], rfl, d.lk, .inr ⟨ht, .inr ⟨d.st, fun p H1 s1 h1 => ⟨szr, fun q H2 n2 s2 h2 => ⟨pairD "undo", pairD "undo", dp_pair (s2 _ _ h1), dp_pair h2, (pair_sh _ (by simp)).1, (pair_sh _ (by simp)).1, ?_⟩⟩⟩⟩⟩
      rw [(pair_sh "undo" (by simp)).2]
      exact kQ H2 (s1.trans s2)
    · refine ⟨_, rfl, pg, _, rfl, .inl hpg, rfl, _, rfl, iteF' (by rw [xl, List.length_append]; simp; omega) ?_⟩
      obtain ⟨us, u, rfl, hus, hu⟩ := paired_snoc hps
      refine ⟨_, rfl, .inl ⟨rfl, _, SqL.of hpg⟩, pg, _, u, rfl, rfl, hpg, by simp, ?_⟩
      rw [List.dropLast_concat]
      have f1 : Fr [pg] H (upd H pg (.lst us)) := Fr.refl.upd (by simp)
      have pmL : ∀ a ∈ [pg], a ∈ L := fun a m => by rw [List.mem_singleton.mp m]; exact d.pm
      have lk1 : Lok R L (upd H pg (.lst us)) := d.lk.upd (.inl ⟨_, rfl⟩)
      have st1 := d.st.fr f1 pmL (fun m => d.nx (List.mem_singleton.mp m).symm) (fun m => d.ne (List.mem_singleton.mp m).symm)
      have ht1 := f1 _ _ (fun m => by rw [List.mem_singleton.mp m, hpg] at ht; cases ht) ht
      have hpg1 : (upd H pg (.lst us)) pg = some (.lst us) := upd_same
      generalize upd H pg (.lst us) = H1 at f1 lk1 st1 ht1 hpg1 ⊢
      refine ⟨_, rfl, _, rfl, L, x, el, t, sv, es0, rfl, lk1, .inr ⟨ht1, .inl ⟨s0, st1, fun p H2 f2 lk2 st2 h2 => ⟨szr, fun q H3 n3 s3 h3 => ⟨pairD "", pairD "", dp_pair (s3 _ _ h2), dp_pair h3, (pair_sh _ (by simp)).1, (pair_sh _ (by simp)).1, ?_⟩⟩⟩⟩⟩
      rw [(pair_sh "" (by simp)).2]
      have np2 : pg ∉ [x, el] := fun m => by
        simp only [List.mem_cons, List.not_mem_nil, or_false] at m
        rcases m with e | e
        · exact d.nx e
        · exact d.ne e
      refine kQ H3 (((f1.mono m1).trans (f2.mono m2)).trans (Fr.of s3)) ⟨lk2.same s3, st2.same s3, d.pm, d.ne, ⟨us, s3 _ _ (f2 _ _ np2 hpg1), ?_⟩, fun v m => d.ok v (List.mem_append.mpr (.inl m))⟩
      exact L2.Paired.mapP hus fun _ _ z => ((z.same (f1.hl pmL)).same (f2.hl (in2 d.st.xm d.st.em))).same (hl_same s3)
end
end Af

set_option Elab.async false
set_option linter.all false
set_option maxRecDepth 100000
set_option maxHeartbeats 8000000
namespace Af
open PySem L2
abbrev s_l_same : Stmt := top 60
abbrev N_l_same : List Str := ["_law_store", "_law_pages", "_law_page_here", "_law_told_here"]
theorem sc_l_same : FnScope N_l_same ["_law_store", "_law_pages"] (defScope s_l_same) := ⟨rfl, rfl, rfl, by decide +kernel, rfl, by decide +kernel, by decide +kernel⟩

structure PropK (P : Program) (w : World) (K : PySem.W.Frag) (mg : Str → Option Value) (base : Heap) (k : Nat) (C : Addr) (f : Str) (sp : Sp) : Prop where
  ex : ∃ p g fd, PropOf K C f p g ∧ FnOk P w K mg base CX0 k g fd ["self"] sp ∧ Binds K fd ["self"] []
theorem pe_propK {X : Cx} {C : Addr} {f : Str} {sp : Sp} {e : Expr} {pos : Pos} {ta : TE} {j k : Nat} (c : Cls X.K C) (h : PropK X.prog X.w X.K X.mg X.base k C f sp) (hr : Room j X.A) (he : PE X e ta) (hj : k + 1 ≤ j := by decide) (hab : attributeBase e f X.env (eval e X.env) = eval e X.env := by rfl) :
    PE X (.Attribute e f pos) (tProp C sp [] E0 ta) := by
  obtain ⟨p, g, fd, hp, F, b⟩ := h.ex
  exact pe_prop he c hp F (hr.mono hj) b .nil pass0 hab
def nums (ls : List Nat) : List Int := ls.map fun p => ((p : Nat) : Int)
theorem bd_nums {ls : List Nat} (l : ls.length ≤ 40) (h : ∀ k ∈ ls, k < 40) : Bd 3000 2 (.list (dvs (nums ls))) := by
  refine Bd.mono (Bd.lst (b := 45) (n := 1) (k := 40) (fun d hd => ?_) (by unfold dvs nums; rw [List.length_map, List.length_map]; exact l)) (by decide) (by decide)
  obtain ⟨z, hz, rfl⟩ := dvs_mem hd
  obtain ⟨k, hk, rfl⟩ := List.mem_map.mp hz
  have := h k hk
  exact Bd.flat (flat_place ⟨by omega, by omega⟩)
def tolD (s : Sv) : PyData := .list [.list (dvs (nums s.came)), .tuple (dvs s.held), .list (dvs (nums (rdy s)))]
theorem bd_tol {s : Sv} (p : OkP s.pl) (o : OkSv s) : Bd 20000 4 (tolD s) := by
  have pc : (pcs s).length ≤ 40 := p.pc
  have c24 := p.c24
  have lr := rkP_len s.pl
  have cl : s.came.length ≤ (pcs s).length := nd_len _ _ o.nd o.lt
  have rl : (rdy s).length ≤ (rkP s.pl).length := rdyF_len _ _
  have e : (pcs s).length = (rkP s.pl).length := lr.symm
  refine Bd.mono (Bd.lst (b := 3000) (n := 2) (k := 3) (fun d hd => ?_) (Nat.le_refl 3)) (by decide) (by decide)
  simp only [List.mem_cons, List.not_mem_nil, or_false] at hd
  rcases hd with rfl | rfl | rfl
  · exact bd_nums (by omega) fun k hk => Nat.lt_of_lt_of_le (o.lt k hk) pc
  · refine Bd.mono (Bd.tup (b := 45) (n := 1) (k := 24) (fun d hd => ?_) (by unfold dvs; rw [List.length_map, o.hl]; exact c24)) (by decide) (by decide)
    obtain ⟨z, hz, rfl⟩ := dvs_mem hd
    exact Bd.flat (flat_small (o.hb z hz))
  · exact bd_nums (by omega) fun k hk => by have := rdy_lt (es := rkP s.pl) (fs := s.came) k hk; omega
def sp_same (S C R : Addr) : Sp := fun vs H Q _ => ∃ (L : List Addr) (x el pg : Addr) (s : Sv) (es : List Sv), vs = [.ref x, .ref pg] ∧ DuoV S C R L H x el pg s es ∧ es.length < 1000 ∧ ∀ H', Same H H' → Q (.bl true) H'
theorem StoreV.ref {S C R : Addr} {L : List Addr} {H : Hp} {x el : Addr} {s : Sv} {es : List Sv} (h : StoreV S C R L H x el s es) : ∃ dx fs, H x = some (.ins R dx fs) := by
  obtain ⟨dx, fs, nv, vs, h1, _⟩ := h.ex
  exact ⟨dx, fs, h1⟩
section
variable {P : Program} {w : World} {K : PySem.W.Frag} {mg : Str → Option Value} {base : Heap}
theorem ok_same {f S C R fE fI fL : Addr} {fd fdE fdI fdL : FuncData} (F : Fun K "_law_same" "_law_same" s_l_same f fd) (T : Txt mg) (t_repr : mg "repr" = none) (TC : PlanC K mg C) (TR : ObjC K mg "Store" R RN) (O : OwnEqC K C fE)
    (G_eq : FnOk P w K mg base CX0 1 fE fdE ["self", "other"] (sp_eq K C)) (b_eq : Binds K fdE ["self", "other"] [])
    (M_Plan : Mk K C fI) (G_Plan : FnOk P w K mg base CX0 6 fI fdI ["self", "base", "width", "steps"] (sp_initX C)) (b_Plan : Binds K fdI ["self", "base", "width", "steps"] [])
    (O_len : LenC K R fL) (G_len : FnOk P w K mg base CX0 1 fL fdL ["self"] (sp_plen S C R)) (b_len : Binds K fdL ["self"] [])
    (P_plan : PropK P w K mg base 1 R "plan" (sp_pplan S C R)) (P_came : PropK P w K mg base 1 R "came" (sp_pcame S C R)) (P_content : PropK P w K mg base 1 R "content" (sp_pcont S C R)) (P_ready : PropK P w K mg base 2 R "ready" (sp_pready S C R))
    (c_l_held : Cal P w K mg base 2 "_law_held" ["_law_page_here"] sp_lheld) (c_l_nexts : Cal P w K mg base 2 "_law_nexts" ["_law_page_here"] sp_lnexts) : FnG P w K mg base 8 f fd ["_law_store", "_law_pages"] (sp_same S C R) := by
  refine okG F sc_l_same (fun vs H Q E h => ?_) (fun cdv A outer s H vs Q E hr hg h => ?_)
  · obtain ⟨_, _, _, _, _, _, rfl, _⟩ := h
    rfl
  obtain ⟨L, x, el, pg, sv, es, rfl, d, le, k⟩ := h
  refine ⟨_, (pss_cons (ps_set (i := 2) sc_l_same.nd rfl (Or.inl rfl) (pe_ix ix_seq' (pv 1) (pe_un un_neg pe_int) (fun _ _ => rfl)))
    (pss_cons (ps_cut (ps_if (PW.pt (pw_or (pt_cmpR (op_ownNe O G_eq b_eq hr) (pe_propK TR.cl P_plan hr (pv 0)) (pe_make M_Plan G_Plan (hr.mono (by decide)) rfl TC.mgC b_Plan .nil pass0 (pa_cons (pe_ix ix_seq' (pe_dget hr.u1 (pv 2) pe_str (fun _ _ => rfl)) pe_int (fun _ _ => rfl)) (pa_cons (pe_ix ix_seq' (pe_dget hr.u1 (pv 2) pe_str (fun _ _ => rfl)) pe_int (fun _ _ => rfl)) (pa_cons (pe_ix ix_seq' (pe_dget hr.u1 (pv 2) pe_str (fun _ _ => rfl)) pe_int (fun _ _ => rfl)) pa_nil)))) (nomark _)) (pw_or1 (pt_cmpR op_ne (pe_callB (call_lenO O_len G_len b_len (hr.mono (by decide : 3 ≤ _))) (by rfl) T.len (by decide +kernel) (pa_cons (pv 0) pa_nil)) (pe_op op_sub (pe_callB call_len' (by rfl) T.len (by decide +kernel) (pa_cons (pv 1) pa_nil)) pe_int) (nomark _)))))
      (pss_one (ps_ret pe_bl))
      pss_nil))
    (pss_cons (ps_set (i := 3) sc_l_same.nd rfl (Or.inl rfl) (pe_lst' (pa_cons (pe_propK TR.cl P_came hr (pv 0)) (pa_cons (pe_propK TR.cl P_content hr (pv 0)) (pa_cons (pe_propK TR.cl P_ready hr (pv 0)) pa_nil)))))
    (pss_one (ps_ret (pe_cmpR op_eq (pe_callB (call_reprX hg hr.units) (by rfl) t_repr (by decide +kernel) (pa_cons (pv 3) pa_nil)) (pe_callB (call_reprX hg hr.units) (by rfl) t_repr (by decide +kernel) (pa_cons (pe_lst' (pa_cons (pe_dget hr.u1 (pv 2) pe_str (fun _ _ => rfl)) (pa_cons (pe_cal c_l_held hr (pa_cons (pv 2) pa_nil)) (pa_cons (pe_cal c_l_nexts hr (pa_cons (pv 2) pa_nil)) pa_nil)))) pa_nil)) (nomark _))))))), ?_⟩
  obtain ⟨xs, hpg, hps⟩ := d.pl
  have xl : xs.length = es.length + 1 := by rw [paired_len hps, List.length_append]; rfl
  obtain ⟨us, u, rfl, hus, hu⟩ := paired_snoc hps
  have g := d.ok sv (List.mem_append.mpr (.inr (List.mem_singleton.mpr rfl)))
  have huH : PageV H u sv.pl sv.came := hu.same hl_in
  obtain ⟨pg0, rows, tr, ca, sa, fa, xs0, rfl, h0, vp, vc, htr, hca, hsa, hst, hf, r10⟩ := id huH
  have gp : ∀ {G : Hp}, Same H G → DGet G pg0 (.str "plan") (some (.ref tr)) := fun s => .inl ⟨rows, .inr "plan", .inl (s _ _ h0), rfl, vp.symm⟩
  have gc : ∀ {G : Hp}, Same H G → DGet G pg0 (.str "came") (some (.ref fa)) := fun s => .inl ⟨rows, .inr "came", .inl (s _ _ h0), rfl, vc.symm⟩
  have st := d.st
  obtain ⟨dx, fs, hx⟩ := st.ref
  refine ⟨_, rfl, _, rfl, pg, _, -1, _, rfl, rfl, .inl hpg, at_end, ?_⟩
  refine ⟨fun σ' H' => σ' = [some (.ref x), some (.ref pg), some (.ref pg0), none] ∧ Same H H', ?_, ?_⟩
  · refine ⟨_, rfl, x, dx, fs, rfl, hx, L, x, el, sv, es, rfl, st, fun pa sl ql el' pF => ?_⟩
    refine ⟨_, rfl, pg0, .ref tr, rfl, gp (Same.refl _), tr, _, 0, _, rfl, rfl, .inr htr, rfl, _, rfl, pg0, .ref tr, rfl, gp (Same.refl _), tr, _, 1, _, rfl, rfl, .inr htr, rfl, _, rfl, pg0, .ref tr, rfl, gp (Same.refl _), tr, _, 2, _, rfl, rfl, .inr htr, rfl, fun y dy hy hdy ndy => ?_⟩
    have sm := s0_made (C := C) hy hdy
    refine made_outW (K := K) (pl := sv.pl) rfl hy sm upd_same (sm _ _ hca) (sm _ _ hsa) (steps_same sm hst) g.pl fun H2 s2 n2 => ⟨rfl, ?_⟩
    have xh : hl L H x = none := if_pos st.xm
    have w1 : PlanW x C (hl L H) (.ref pa) sv.pl := by
      obtain ⟨a0, ca0, ya, yb, e0, ⟨_, q1, q2, q3⟩, _⟩ := id pF.ex
      exact ⟨sl, ql, el', pF, (fun e => by rw [e, xh] at q1; cases q1), (fun e => by rw [e, xh] at q2; cases q2), fun e => by rw [e, xh] at q3; cases q3⟩
    have w2 : PlanW x C H2 (.ref y) sv.pl := n2.w hx
    refine ne_ins TC ((w1.same hl_in).same s2).i w2.i ?_
    rw [same_refl]
    refine ⟨_, rfl, iteF ?_⟩
    have S2 := s2
    refine ⟨_, rfl, x, dx, fs, rfl, S2 _ _ hx, L, x, el, sv, es, rfl, st.same S2, _, rfl, by omega, ?_⟩
    refine ⟨_, rfl, pg, _, rfl, .inl (S2 _ _ hpg), _, _, rfl, rfl, rfl, _, rfl, iteF' ?_ ⟨rfl, S2⟩⟩
    rw [xl]
    simp
  rintro _ H2 ⟨rfl, S2⟩
  have st2 := st.same S2
  refine ⟨_, rfl, x, dx, fs, rfl, S2 _ _ hx, L, x, el, sv, es, rfl, st2, fun l1 H3 s3 n3 h3 => ?_⟩
  have S3 := S2.trans s3
  refine ⟨_, rfl, x, dx, fs, rfl, S3 _ _ hx, L, x, el, sv, es, rfl, st.same S3, fun ha hha => ?_⟩
  refine ⟨_, rfl, x, dx, fs, rfl, S3 _ _ hx, L, x, el, sv, es, rfl, st.same S3, fun l2 H4 s4 n4 h4 => ⟨szr, fun l H5 n5 s5 h5 => ?_⟩⟩
  have S5 := S3.trans (s4.trans s5)
  have bd := bd_tol g.pl g.ok
  have fk : ∀ k ∈ sv.came, k < (ptsL sv.pl.w 0 sv.pl.sts).length := fun k hk => by rw [pts_len]; exact g.ok.lt k hk
  refine ⟨_, rfl, _, tolD sv, rfl, Dx.of (.lst h5 (.cons (.lst (s5 _ _ (s4 _ _ h3)) (dq_ints (nums sv.came))) (.cons (.tup (s5 _ _ (s4 _ _ (hl_in _ _ hha))) (dq_ints sv.held)) (.cons (.lst (s5 _ _ h4) (dq_ints (nums (rdy sv)))) .nil)))), bd.sh, Nat.le_trans bd.dp (by decide), Nat.le_trans bd.tx (by decide), ?_⟩
  refine ⟨_, rfl, pg0, .ref fa, rfl, gc S5, _, rfl, .ref pg0, sv.pl, sv.came, rfl, huH.same S5, g.pl, fk, fun th H6 s6 h6 => ?_⟩
  have S6 := S5.trans s6
  refine ⟨_, rfl, .ref pg0, sv.pl, sv.came, rfl, huH.same S6, g.pl, fun l3 H7 s7 n7 h7 => ⟨szr, fun l4 H8 n8 s8 h8 => ?_⟩⟩
  have S8 := S6.trans (s7.trans s8)
  rw [pg_next g] at h7
  rw [← show sv.held = heldP sv.pl sv.came from g.hd] at h6
  refine ⟨_, tolD sv, rfl, Dx.of (.lst h8 (.cons (.lst (S8 _ _ hf) (dq_ints (nums sv.came))) (.cons (.tup (s8 _ _ (s7 _ _ h6)) (dq_ints sv.held)) (.cons (.lst (s8 _ _ h7) (dq_ints (nums (rdy sv)))) .nil)))), bd.sh, Nat.le_trans bd.dp (by decide), Nat.le_trans bd.tx (by decide), ?_⟩
  refine ⟨rfl, ?_⟩
  rw [decide_eq_true rfl]
  exact k H8 S8
end
end Af

set_option Elab.async false
set_option linter.all false
set_option maxRecDepth 100000
set_option maxHeartbeats 8000000
namespace Af
open PySem L2
abbrev s_l_step : Stmt := top 43
abbrev N_l_step : List Str := ["_law_pen_here", "_law_cells", "_law_most_worth", "_law_most_long", "_law_first", "_law_long_here", "_law_k"]
theorem sc_l_step : FnScope N_l_step ["_law_pen_here", "_law_cells", "_law_most_worth", "_law_most_long"] (defScope s_l_step) := ⟨rfl, rfl, rfl, by decide +kernel, rfl, by decide +kernel, by decide +kernel⟩

abbrev s_l_call : Stmt := top 61
abbrev N_l_call : List Str := ["_law_pen_here", "_law_page_here", "_law_road", "_law_cells", "_law_step_here", "_law_some_here"]
theorem sc_l_call : FnScope N_l_call ["_law_pen_here", "_law_page_here"] (defScope s_l_call) := ⟨rfl, rfl, rfl, by decide +kernel, rfl, by decide +kernel, by decide +kernel⟩

def sp_step : Sp := fun vs H Q _ => ∃ (q : Pn) (m n : Nat), vs = [.ref q.p, .int (n : Nat), .int 7, .int 4] ∧ Pen q m H ∧ m + 20 < 1000000000000 ∧ 1 ≤ n ∧ n ≤ 24 ∧ ∀ t b f ws H', Go q (m + 6) H H' → H' t = some (.tup [.int f, .ref b]) → H' b = some (.tup (ivs ws)) → OkS n (some (f, ws)) → Q (.ref t) H'
theorem pen_ne {R : Addr} {q : Pn} {m : Nat} {H : Hp} {x dx : Addr} {fs : List (Str × V)} (p : Pen q m H) (h : H x = some (.ins R dx fs)) : x ≠ q.p := fun e => by
  obtain ⟨l, hl⟩ := p.lst
  rw [e, hl] at h
  cases h
theorem StoreV.go {S C R : Addr} {L : List Addr} {H H' : Hp} {x el : Addr} {s : Sv} {es : List Sv} {q : Pn} {m m' : Nat} (h : StoreV S C R L H x el s es) (p : Pen q m' H) (g : Go q m H H') (qm : q.p ∈ L) (ne : q.p ≠ el) : StoreV S C R L H' x el s es := by
  obtain ⟨dx, fs, nv, vs, h1, _⟩ := id h.ex
  exact h.fr (Fr.kp g.kp) (fun a ha => by rw [List.mem_singleton.mp ha]; exact qm) (fun m => pen_ne p h1 (List.mem_singleton.mp m)) fun m => ne (List.mem_singleton.mp m).symm
theorem Lok.kp {R : Addr} {L : List Addr} {H H' : Hp} {p : Addr} (h : Lok R L H) (k : Kp p H H') (hp : ∃ l, H' p = some (.lst l)) : Lok R L H' := fun a m => by
  by_cases e : a = p
  · rw [e]
    exact .inl hp
  · rcases h a m with ⟨xs, z⟩ | ⟨dx, fs, z⟩
    · exact .inl ⟨xs, k a _ (.inl e) z⟩
    · exact .inr ⟨dx, fs, k a _ (.inl e) z⟩

def sp_call (R : Addr) : Sp := fun vs H Q _ => ∃ (q : Pn) (m : Nat) (L : List Addr) (x : V) (s : Sv), vs = [.ref q.p, x] ∧ Pen q m H ∧ m + 30 < 1000000000000 ∧ Lok R L H ∧ q.p ∈ L ∧ PageV (hl L H) x s.pl s.came ∧ PgOk s ∧
  ∀ t H', Go q (m + 8) H H' → ((∃ cl, ClV H' t cl ∧ ClG s.pl.cs.length cl) ∨ H' t = some (.tup [.str "undo"])) → Q (.ref t) H'
section
variable {P : Program} {w : World} {K : PySem.W.Frag} {mg : Str → Option Value} {base : Heap}
theorem ok_step {f : Addr} {fd : FuncData} (F : Fun K "_law_step" "_law_step" s_l_step f fd) (T : Txt mg) (c_l_draw : Cal P w K mg base 2 "_law_draw" ["_law_pen_here", "_law_under"] sp_draw) :
    FnOk P w K mg base CX0 3 f fd ["_law_pen_here", "_law_cells", "_law_most_worth", "_law_most_long"] sp_step := by
  refine F.ok sc_l_step (fun vs H Q E h => ?_) (fun cdv A outer s H vs Q E hr h => ?_)
  · obtain ⟨_, _, _, rfl, _⟩ := h
    rfl
  obtain ⟨q, m, n, rfl, hP, hm, n1, n24, k⟩ := h
  refine ⟨_, (pss_cons (ps_set (i := 4) sc_l_step.nd rfl (Or.inl rfl) (pe_cal c_l_draw hr (pa_cons (pv 0) (pa_cons (pv 1) pa_nil))))
    (pss_cons (ps_set (i := 5) sc_l_step.nd rfl (Or.inl rfl) (pe_op op_add pe_int (pe_cal c_l_draw hr (pa_cons (pv 0) (pa_cons (pe_callB (call_min2 rfl) (by rfl) T.min (by decide +kernel) (pa_cons (pv 3) (pa_cons (pe_op op_sub (pv 1) (pv 4)) pa_nil))) pa_nil)))))
    (pss_one (ps_ret (pe_tup' (pa_cons (pv 4) (pa_cons (pe_callTy call_tuple' (by rfl) T.tuple (by decide +kernel) (pa_cons (pe_lc (own := [("_law_k", 6)]) (g := (gName 6)) (tt := tYes) rfl sc_l_step.nd (pi_range1 rfl T.range (pa_cons (pv 5) pa_nil)) (blkOk_by (own := [("_law_k", 6)]) (N := N_l_step) (sc := defScope s_l_step) (by decide +kernel)) (fun _ _ _ _ _ => pg_name (i := 6) sc_l_step.nd rfl (Or.inl rfl)) (fun _ _ _ _ _ => pts_nil) (fun _ _ _ _ _ => (pe_cal c_l_draw hr (pa_cons (pv 0) (pa_cons (pe_op op_add (pv 2) pe_int) pa_nil))))) pa_nil)) pa_nil))))))), ?_⟩
  refine ⟨_, rfl, _, rfl, q, m, _, rfl, by omega, by omega, hP, by omega, fun d H1 d0 d1 g1 => ?_⟩
  refine ⟨_, rfl, _, rfl, _, rfl, _, rfl, _, _, rfl, rfl, _, _, rfl, ?_⟩
  have hmore : ∃ more : Int, (if ((n : Nat) : Int) - d < 4 then ((n : Nat) : Int) - d else 4) = more ∧ 1 ≤ more ∧ more ≤ 4 ∧ d + more ≤ n := by
    by_cases c : ((n : Nat) : Int) - d < 4
    · rw [if_pos c]
      exact ⟨_, rfl, by omega, by omega, by omega⟩
    · rw [if_neg c]
      exact ⟨_, rfl, by omega, by omega, by omega⟩
  obtain ⟨more, e, r1, r2, r3⟩ := hmore
  rw [e]
  refine ⟨q, m + 1, more, rfl, by omega, by omega, g1.pen, by omega, fun d2 H2 d20 d21 g2 => ⟨_, _, rfl, rfl, ?_⟩⟩
  refine ⟨_, rfl, _, rfl, _, rfl, ?_, ?_, ?_⟩
  · omega
  · omega
  refine lc_draws (q := q) (m := m + 1 + 1) (u := 8) g2.pen ?_ ?_ (fun x H3 Q m3 p3 h3 kk => ?_) (fun D H3 ns hD g3 h3 hl hb => ?_)
  · omega
  · exact fun x => rfl
  · exact ⟨_, rfl, _, rfl, _, _, rfl, rfl, q, m3, 8, rfl, by decide, by decide, p3, by omega, kk⟩
  · refine ⟨D, _, rfl, .inl h3, fun t H4 s4 h4 => ⟨szr, fun r H5 hr5 s5 h5 => ?_⟩⟩
    have gg := g1.trans (g2.trans g3)
    have hlen : ns.length = (1 + d2).toNat := hl
    exact k r t d ns H5 (((gg.same s4).same s5).mono (by omega)) h5 (s5 _ _ h4) ⟨d0, fun z => by rw [z] at hlen; have : (0 : Nat) = (1 + d2).toNat := hlen; omega, by omega, hb⟩
theorem ok_call {f R : Addr} {fd : FuncData} (F : Fun K "_law_call" "_law_call" s_l_call f fd) (T : Txt mg) (c_l_draw : Cal P w K mg base 2 "_law_draw" ["_law_pen_here", "_law_under"] sp_draw) (c_l_step : Cal P w K mg base 3 "_law_step" ["_law_pen_here", "_law_cells", "_law_most_worth", "_law_most_long"] sp_step)
    (c_l_parts : Cal P w K mg base 1 "_law_parts" ["_law_triple"] (sp_lparts K)) (c_l_nexts : Cal P w K mg base 2 "_law_nexts" ["_law_page_here"] sp_lnexts) : FnOk P w K mg base CX0 4 f fd ["_law_pen_here", "_law_page_here"] (sp_call R) := by
  refine F.ok sc_l_call (fun vs H Q E h => ?_) (fun cdv A outer s H vs Q E hr h => ?_)
  · obtain ⟨_, _, _, _, _, rfl, _⟩ := h
    rfl
  obtain ⟨q, m, L, x, sv, rfl, pn, hm, lk, qm, pgv, g, k⟩ := h
  refine ⟨_, (pss_cons (ps_par (i := 2) (j := 3) rfl sc_l_call.nd rfl rfl (by decide) rfl rfl (pa_cons (pe_cal c_l_draw hr (pa_cons (pv 0) (pa_cons pe_int pa_nil))) (pa_cons (pe_callB call_len' (by rfl) T.len (by decide +kernel) (pa_cons (pe_ix ix_seq' (pe_dget hr.u1 (pv 1) pe_str (fun _ _ => rfl)) pe_int (fun _ _ => rfl)) pa_nil)) pa_nil)) (by rfl))
    (pss_cons (ps_if (pt_cmpR op_eq (pv 2) pe_int (nomark _))
      (pss_one (ps_ret (pe_tup' (pa_cons pe_str pa_nil))))
      pss_nil)
    (pss_cons (ps_if (pt_cmpR op_eq (pv 2) pe_int (nomark _))
      (pss_one (ps_ret (pe_tup' (pa_cons pe_str pa_nil))))
      pss_nil)
    (pss_cons (ps_if (pt_cmpR op_lt (pv 2) pe_int (nomark _))
      (pss_one (ps_ret (pe_tup' (pa_cons pe_str pa_nil))))
      pss_nil)
    (pss_cons (ps_if (pt_cmpR op_lt (pv 2) pe_int (nomark _))
      (pss_cons (ps_set (i := 4) sc_l_call.nd rfl (Or.inl rfl) (pe_cal c_l_step hr (pa_cons (pv 0) (pa_cons (pv 3) (pa_cons pe_int (pa_cons pe_int pa_nil))))))
    (pss_one (ps_ret (pe_tup' (pa_cons pe_str (pa_cons (pe_ix ix_seq' (pv 4) pe_int (fun _ _ => rfl)) (pa_cons (pe_ix ix_seq' (pv 4) pe_int (fun _ _ => rfl)) pa_nil)))))))
      pss_nil)
    (pss_cons (ps_set (i := 5) sc_l_call.nd rfl (Or.inl rfl) (pe_cal c_l_nexts hr (pa_cons (pv 1) pa_nil)))
    (pss_cons (ps_cut (ps_if (PW.pt (pw_and (pt_cmpR op_lt (pv 2) pe_int (nomark _)) (pw_and1 (pt_cmpR (op_neNil hr.units) (pv 5) (pe_lst' pa_nil) (nomark _)))))
      (pss_one (ps_ret (pe_tup' (pa_cons pe_str (pa_cons (pe_ix ix_seq' (pv 5) (pe_cal c_l_draw hr (pa_cons (pv 0) (pa_cons (pe_callB call_len' (by rfl) T.len (by decide +kernel) (pa_cons (pv 5) pa_nil)) pa_nil))) (fun _ _ => rfl)) pa_nil)))))
      pss_nil))
    (pss_one (ps_ret (pe_tup' (pa_cons pe_str (pa_cons (pe_cal c_l_draw hr (pa_cons (pv 0) (pa_cons (pe_op op_add (pe_callB call_len' (by rfl) T.len (by decide +kernel) (pa_cons (pe_cal c_l_parts hr (pa_cons (pe_dget hr.u1 (pv 1) pe_str (fun _ _ => rfl)) pa_nil)) pa_nil)) pe_int) pa_nil))) pa_nil)))))))))))), ?_⟩
  refine ⟨_, rfl, q, m, 14, rfl, by decide, by decide, pn, by omega, fun d H1 d0 d1 g1 => ?_⟩
  have pn1 := g1.pen
  have pgv1 := pgv.same ((Fr.kp g1.kp).hl (fun a ha => by rw [List.mem_singleton.mp ha]; exact qm))
  have lk1 := lk.kp g1.kp g1.pen.lst
  have hx := pgv1.same hl_in
  obtain ⟨pg0, rows, tr, ca, sa, fa, xs0, rfl, h0, vp, vc, htr, hca, hsa, hst, hf, r10⟩ := id hx
  have gp : ∀ {G : Hp}, Same H1 G → DGet G pg0 (.str "plan") (some (.ref tr)) := fun s => .inl ⟨rows, .inr "plan", .inl (s _ _ h0), rfl, vp.symm⟩
  have c1 := g.pl.c1
  have c24 := g.pl.c24
  refine ⟨_, rfl, pg0, .ref tr, rfl, gp (Same.refl _), tr, _, 0, _, rfl, rfl, .inr htr, rfl, ca, _, rfl, .inr hca, ⟨_, _, rfl, ?_⟩⟩
  rw [ivs_len]
  refine ⟨_, rfl, rfl, _, rfl, ite2 (fun _ => ⟨szr, fun t H2 n2 s2 h2 => k t H2 ((g1.same s2).mono (by omega)) (.inr h2)⟩) (fun _ => ?_)⟩
  refine ⟨_, rfl, rfl, _, rfl, ite2 (fun _ => ⟨szr, fun t H2 n2 s2 h2 => k t H2 ((g1.same s2).mono (by omega)) (.inl ⟨.lose, h2, True.intro⟩)⟩) (fun _ => ?_)⟩
  refine ⟨_, rfl, _, _, rfl, rfl, _, rfl, ite2 (fun _ => ⟨szr, fun t H2 n2 s2 h2 => k t H2 ((g1.same s2).mono (by omega)) (.inl ⟨.bar, h2, True.intro⟩)⟩) (fun _ => ?_)⟩
  refine ⟨_, rfl, _, _, rfl, rfl, _, rfl, ite2 (fun _ => ?_) (fun _ => ?_)⟩
  · refine ⟨_, rfl, _, rfl, q, m + 1, sv.pl.cs.length, rfl, pn1, by omega, c1, c24, fun t b f0 ws H2 g2 ht hb oy => ?_⟩
    refine ⟨_, rfl, t, _, 0, _, rfl, rfl, .inr ht, rfl, _, rfl, t, _, 1, _, rfl, rfl, .inr ht, rfl, szr, fun u H3 n3 s3 h3 => ?_⟩
    exact k u H3 (((g1.trans g2).same s3).mono (by omega)) (.inl ⟨.wr f0 ws, ⟨b, h3, s3 _ _ hb⟩, oy⟩)
  refine ⟨_, rfl, .ref pg0, sv.pl, sv.came, rfl, hx, g.pl, fun l H2 s2 n2 h2 => ?_⟩
  rw [pg_next g] at h2
  have pc : (pcs sv).length ≤ 40 := g.pl.pc
  have lr := rkP_len sv.pl
  have epc : (pcs sv).length = (rkP sv.pl).length := lr.symm
  have rl : (rdy sv).length ≤ (rkP sv.pl).length := rdyF_len _ _
  have g2 := g1.same s2
  refine ⟨fun σ' H' => σ' = [some (.ref q.p), some (.ref pg0), some (.int d), some (.int ((sv.pl.cs.length : Nat) : Int)), none, some (.ref l)] ∧ Same H2 H', ?_, ?_⟩
  · refine ⟨_, rfl, _, _, rfl, rfl, _, rfl, ite2 (fun _ => ?_) (fun _ => iteF ⟨rfl, Same.refl _⟩)⟩
    refine ⟨_, rfl, szr, fun l2 H3 n3 s3 h3 => ⟨l, l2, nums (rdy sv), rfl, rfl, s3 _ _ h2, h3, _, rfl, ?_⟩⟩
    refine ite2 (fun ne => ?_) (fun _ => ⟨rfl, s3⟩)
    have lp : 0 < (rdy sv).length := by
      cases e : rdy sv with
      | nil => rw [e] at ne; cases ne
      | cons _ _ => simp
    refine ⟨_, rfl, _, rfl, _, rfl, l, _, rfl, .inl (s3 _ _ h2), ?_⟩
    rw [nvs_len]
    refine ⟨q, m + 1, _, rfl, by omega, by omega, g2.pen.same s3, by omega, fun z H4 z0 z1 g4 => ?_⟩
    have lq : l ≠ q.p := fun e => by
      obtain ⟨ys, hl⟩ := pn1.lst
      rw [e, hl] at n2
      cases n2
    obtain ⟨n, rfl⟩ := Int.eq_ofNat_of_zero_le z0
    have nl : n < (rdy sv).length := by omega
    refine ⟨l, _, _, _, rfl, rfl, .inl (g4.kp.lst lq (s3 _ _ h2)), atI_nat (nvs_get nl), szr, fun t H5 n5 s5 h5 => ?_⟩
    have b := rdy_lt (es := rkP sv.pl) (fs := sv.came) _ (List.getElem_mem nl)
    exact k t H5 ((((g2.same s3).trans g4).same s5).mono (by omega)) (.inl ⟨.ari _, h5, ⟨by omega, by omega⟩⟩)
  rintro _ H3 ⟨rfl, s3⟩
  have S3 := s2.trans s3
  refine ⟨_, rfl, _, rfl, pg0, .ref tr, rfl, gp S3, tr, sa, ca, sv.pl.w, xs0, sv.pl.sts, rfl, S3 _ _ htr, S3 _ _ hsa, steps_same S3 hst, ?_, ?_, fun x hx => (g.pl.st x hx).wide c24, fun l2 H4 ys s4 n4 h4 p4 => ?_⟩
  · have := g.pl.w1; omega
  · rw [paired_len hst]; have := g.pl.sl; omega
  have yl : ys.length = (pcs sv).length := by rw [paired_len p4, pts_len]; rfl
  refine ⟨l2, _, rfl, .inl h4, _, _, rfl, rfl, ?_⟩
  refine ⟨q, m + 1, _, rfl, by omega, by omega, (g2.pen.same s3).same s4, by omega, fun z H5 z0 z1 g5 => ⟨szr, fun t H6 n6 s6 h6 => ?_⟩⟩
  exact k t H6 (((((g2.same s3).same s4).trans g5).same s6).mono (by omega)) (.inl ⟨.ari z, h6, ⟨z0, by omega⟩⟩)
end
end Af

set_option Elab.async false
set_option linter.all false
set_option maxRecDepth 100000
set_option maxHeartbeats 16000000
namespace Af
open PySem L2
abbrev s_l_page : Stmt := top 62
abbrev N_l_page : List Str := ["_law_pen_here", "_law_most", "_law_cells", "_law_k"]
theorem sc_l_page : FnScope N_l_page ["_law_pen_here", "_law_most"] (defScope s_l_page) := ⟨rfl, rfl, rfl, by decide +kernel, rfl, by decide +kernel, by decide +kernel⟩

def sp_law (K : PySem.W.Frag) : Sp := fun vs H Q _ => ∃ (a : Addr) (ns : List Int), vs = [.ref a] ∧ SqL K H a (ns.map V.int) ∧ ∀ H', Q (.bl true) H'
theorem Kp.fr {p : Addr} {M : List Addr} {H H1 H2 : Hp} (k : Kp p H H1) (f : Fr M H1 H2) (n : ∀ a ∈ M, H a = none) : Kp p H H2 := fun a o c e => f a o (fun m => by rw [n a m] at e; cases e) (k a o c e)
theorem Pen.fr {q : Pn} {m m0 : Nat} {M : List Addr} {H H1 H2 : Hp} (h : Pen q m H1) (f : Fr M H1 H2) (h0 : Pen q m0 H) (n : ∀ a ∈ M, H a = none) : Pen q m H2 := by
  obtain ⟨i, k, h1, h2, h3⟩ := h.ex
  obtain ⟨i0, k0, z1, z2, _⟩ := h0.ex
  exact ⟨i, k, f _ _ (fun m => by rw [n _ m] at z1; cases z1) h1, f _ _ (fun m => by rw [n _ m] at z2; cases z2) h2, h3⟩
theorem nxE_len (s : Sv) (es : List Sv) (cl : Cl) : (nxE s es cl).length ≤ es.length + 1 := by
  unfold nxE
  cases exec s cl with
  | inl s' => simp
  | inr k => simp
theorem DuoV.go {S C R : Addr} {L : List Addr} {H H' : Hp} {x el pg : Addr} {s : Sv} {es : List Sv} {q : Pn} {m m' : Nat} (d : DuoV S C R L H x el pg s es) (p : Pen q m' H) (g : Go q m H H') (qm : q.p ∈ L) (ne : q.p ≠ el) (np : q.p ≠ pg) : DuoV S C R L H' x el pg s es := by
  obtain ⟨xs, h, ps⟩ := d.pl
  have sL := (Fr.kp g.kp).hl (L := L) (fun a ha => by rw [List.mem_singleton.mp ha]; exact qm)
  exact ⟨d.lk.kp g.kp g.pen.lst, d.st.go p g qm ne, d.pm, d.ne, ⟨xs, g.kp.lst np.symm h, L2.Paired.mapP ps fun _ _ z => z.same sL⟩, d.ok⟩
/-- the last page -/
theorem DuoV.last {S C R : Addr} {L : List Addr} {H : Hp} {x el pg : Addr} {s : Sv} {es : List Sv} (d : DuoV S C R L H x el pg s es) : ∃ us u, H pg = some (.lst (us ++ [u])) ∧ PageV (hl L H) u s.pl s.came ∧ us.length = es.length := by
  obtain ⟨xs, h, ps⟩ := d.pl
  obtain ⟨us, u, rfl, hus, hu⟩ := paired_snoc ps
  exact ⟨us, u, h, hu, paired_len hus⟩
theorem in3 {P : Addr → Prop} {a b c : Addr} (h1 : P a) (h2 : P b) (h3 : P c) : ∀ z ∈ [a, b, c], P z := fun z m => by
  simp only [List.mem_cons, List.not_mem_nil, or_false] at m
  rcases m with rfl | rfl | rfl
  · exact h1
  · exact h2
  · exact h3
theorem StoreV.lst {S C R : Addr} {L : List Addr} {H : Hp} {x el : Addr} {s : Sv} {es : List Sv} (h : StoreV S C R L H x el s es) : ∃ vs, H el = some (.lst vs) := by
  obtain ⟨dx, fs, nv, vs, h1, h2, h3, _⟩ := h.ex
  exact ⟨vs, h3⟩
theorem wid_at : ∀ n : Nat, n < 4 → ∃ w : Int, ([V.int 1, V.int 2, V.int 3, V.int 7])[n]? = some (.int w) ∧ 1 ≤ w ∧ w ≤ 24
  | 0, _ => ⟨1, rfl, by decide, by decide⟩
  | 1, _ => ⟨2, rfl, by decide, by decide⟩
  | 2, _ => ⟨3, rfl, by decide, by decide⟩
  | 3, _ => ⟨7, rfl, by decide, by decide⟩
  | n + 4, h => absurd h (by omega)
def sp_page : Sp := fun vs H Q _ => ∃ (q : Pn) (m mo : Nat), vs = [.ref q.p, .int (mo : Nat)] ∧ Pen q m H ∧ m + 200 < 1000000000000 ∧ 1 ≤ mo ∧ mo ≤ 24 ∧
  ∀ p cs wd sl fl H', Go q (m + 40) H H' → H p = none → H sl = none → H fl = none → PageX H' (.ref p) ⟨cs, wd, []⟩ [] sl fl → OkP ⟨cs, wd, []⟩ → Q (.ref p) H'
section
variable {P : Program} {w : World} {K : PySem.W.Frag} {mg : Str → Option Value} {base : Heap}
theorem ok_page {f : Addr} {fd : FuncData} (F : Fun K "_law_page" "_law_page" s_l_page f fd) (T : Txt mg) (c_l_draw : Cal P w K mg base 2 "_law_draw" ["_law_pen_here", "_law_under"] sp_draw) : FnOk P w K mg base CX0 3 f fd ["_law_pen_here", "_law_most"] sp_page := by
  refine F.ok sc_l_page (fun vs H Q E h => ?_) (fun cdv A outer s H vs Q E hr h => ?_)
  · obtain ⟨_, _, _, rfl, _⟩ := h
    rfl
  obtain ⟨q, m, mo, rfl, pn, hm, mo1, mo24, k⟩ := h
  refine ⟨_, (pss_cons (ps_set (i := 2) sc_l_page.nd rfl (Or.inl rfl) (pe_op op_add pe_int (pe_cal c_l_draw hr (pa_cons (pv 0) (pa_cons (pv 1) pa_nil)))))
    (pss_one (ps_ret (pe_disp (pps_cons pe_str (pe_tup' (pa_cons (pe_callTy call_tuple' (by rfl) T.tuple (by decide +kernel) (pa_cons (pe_lc (own := [("_law_k", 3)]) (g := (gName 3)) (tt := tYes) rfl sc_l_page.nd (pi_range1 rfl T.range (pa_cons (pv 2) pa_nil)) (blkOk_by (own := [("_law_k", 3)]) (N := N_l_page) (sc := defScope s_l_page) (by decide +kernel)) (fun _ _ _ _ _ => pg_name (i := 3) sc_l_page.nd rfl (Or.inl rfl)) (fun _ _ _ _ _ => pts_nil) (fun _ _ _ _ _ => (pe_cal c_l_draw hr (pa_cons (pv 0) (pa_cons pe_int pa_nil))))) pa_nil)) (pa_cons (pe_ix ix_seq' (pe_lst' (pa_cons pe_int (pa_cons pe_int (pa_cons pe_int (pa_cons pe_int pa_nil))))) (pe_cal c_l_draw hr (pa_cons (pv 0) (pa_cons pe_int pa_nil))) (fun _ _ => rfl)) (pa_cons (pe_lst' pa_nil) pa_nil)))) (pps_cons pe_str (pe_lst' pa_nil) pps_nil)) rfl rfl (by simp) (by decide))))), ?_⟩
  refine ⟨_, rfl, _, rfl, q, m, _, rfl, by omega, by omega, pn, by omega, fun d H1 d0 d1 g1 => ⟨_, _, rfl, rfl, ?_⟩⟩
  refine fun p np => ?_
  have s6 : Same H1 (upd H1 p (.dK [])) := same_new np
  have pn1 := g1.pen.same s6
  refine ⟨_, rfl, _, rfl, by omega, by omega, ?_⟩
  refine lc_draws (q := q) (m := m + 1) (u := 8) pn1 (by omega) (fun x => rfl) (fun x H4 Q m4 p4 h4 kk => ⟨_, rfl, q, m4, 8, rfl, by decide, by decide, p4, by omega, kk⟩) (fun D H4 cs nD g4 h4 l4 b4 => ⟨D, _, rfl, .inl h4, fun ca H5 s5 h5 => ?_⟩)
  have l4 : cs.length = (1 + d).toNat := l4
  have g5 := g4.same s5
  refine ⟨szr, fun wl H7 n7 s7 h7 => ?_⟩
  have pn7 := (g5.pen.same s7).mono (m' := m + 30) (by omega)
  refine ⟨_, rfl, q, m + 30, 4, rfl, by decide, by decide, pn7, by omega, fun d2 H8 e0 e1 g8 => ?_⟩
  obtain ⟨n, rfl⟩ := Int.eq_ofNat_of_zero_le e0
  obtain ⟨wd, hw, w1, w24⟩ := wid_at n (by omega)
  have wq : wl ≠ q.p := fun e => by
    obtain ⟨l0, hl0⟩ := g5.pen.lst
    rw [e, hl0] at n7
    cases n7
  refine ⟨wl, _, _, _, rfl, rfl, .inl (g8.kp.lst wq h7), atI_nat hw, szr, fun sl H9 n9 s9 h9 => ⟨szr, fun tr H10 n10 s10 h10 => ⟨szr, fun fl H11 n11 s11 h11 => ?_⟩⟩⟩
  have pq : p ≠ q.p := fun e => by
    obtain ⟨l0, hl0⟩ := g1.pen.lst
    rw [e, hl0] at np
    cases np
  have hp8 : H8 p = some (.dK []) := g8.kp _ _ (.inl pq) (s7 _ _ (s5 _ _ (g4.kp _ _ (.inl pq) upd_same)))
  have hp11 := s11 _ _ (s10 _ _ (s9 _ _ hp8))
  have ca5 : H5 ca = some (.tup (ivs cs)) := h5
  have ca8 := g8.kp.tup (s7 _ _ ca5)
  have S11 := s9.trans (s10.trans s11)
  refine ⟨hp11, [(.inr "plan", .ref tr), (.inr "came", .ref fl)], rfl, (by decide : 2 ≤ 15), ?_⟩
  have e12 : mergeK [] [((.inr "plan" : L2.Key), V.ref tr), (.inr "came", .ref fl)] = [(.inr "plan", .ref tr), (.inr "came", .ref fl)] := rfl
  rw [e12]
  have f12 : ∀ {c : Addr} {o : HO}, H11 c = some o → (∀ r, o ≠ .dK r) → (upd H11 p (.dK [(.inr "plan", .ref tr), (.inr "came", .ref fl)])) c = some o := fun {c o} e n => by
    rw [upd_ne (fun zz => by rw [zz, hp11] at e; exact n _ (Option.some.inj e).symm)]
    exact e
  have low : ∀ {c : Addr}, H8 c = none → H c = none := fun {c} e => g1.none pn (s6.free (g4.none pn1 (s5.free (s7.free (g8.none pn7 e)))))
  have okp : OkP ⟨cs, wd, []⟩ := ⟨by show 1 ≤ cs.length; omega, by show cs.length ≤ 24; omega, b4, w1, w24, fun x hx => (by cases hx), (by show 0 ≤ 40; decide), (by show 0 ≤ 40; decide)⟩
  have g11 := ((g8.same s9).same s10).same s11
  have Hp1 : H p = none := g1.none pn np
  have go : Go q (m + 40) H (upd H11 p (.dK [(.inr "plan", .ref tr), (.inr "came", .ref fl)])) := by
    have ga : Go q (m + 31) H H11 := ⟨fun c o z e => ?_, g11.pen.mono (by omega)⟩
    · exact (Go.mut pn Hp1 ga).mono (by omega)
    · have cp : c ≠ p := fun zz => by rw [zz, Hp1] at e; cases e
      exact g11.kp _ _ z (s7 _ _ (s5 _ _ (g4.kp _ _ z (s6 _ _ (g1.kp _ _ z e)))))
  exact k p cs wd sl fl _ go Hp1 (low n9) (low (s9.free (s10.free n11))) ⟨p, _, tr, ca, [], rfl, upd_same, rfl, rfl, f12 (s11 _ _ h10) (fun r z => by cases z), f12 (S11 _ _ ca8) (fun r z => by cases z), f12 (s11 _ _ (s10 _ _ h9)) (fun r z => by cases z), .nil, f12 h11 (fun r z => by cases z), by show 2 ≤ 10; decide⟩ okp
end
end Af

set_option Elab.async false
set_option linter.all false
set_option maxRecDepth 100000
set_option maxHeartbeats 8000000
namespace Af
open PySem L2
/-! things that are none: the calls that are refused for them -/
theorem FnOk.or {P : Program} {w : World} {K : PySem.W.Frag} {mg : Str → Option Value} {base : Heap} {CX : CXT} {k : Nat} {f : Addr} {fd : FuncData} {ps : List Str} {sp sp' : Sp} (F : FnOk P w K mg base CX k f fd ps sp) (G : FnOk P w K mg base CX k f fd ps sp') :
    FnOk P w K mg base CX k f fd ps (fun vs H Q E => sp vs H Q E ∨ sp' vs H Q E) :=
  ⟨fun vs H Q E q => q.elim (F.len _ _ _ _) (G.len _ _ _ _), fun A outer s H args us vs Q E hr he hb hv hs => hs.elim (F.run A outer s H args us vs Q E hr he hb hv) (G.run A outer s H args us vs Q E hr he hb hv)⟩
theorem FnOk.up {P : Program} {w : World} {K : PySem.W.Frag} {mg : Str → Option Value} {base : Heap} {CX : CXT} {k : Nat} {f : Addr} {fd : FuncData} {ps : List Str} {sp : Sp} (F : FnOk P w K mg base CX0 k f fd ps sp) : FnOk P w K mg base CX k f fd ps sp :=
  ⟨F.len, fun A outer s H args us vs Q E hr he hb hv hs => codeAny_mono (F.run A outer s H args us vs Q E hr he hb hv hs) fun r s' z => by
    match r, z with
    | .ok (.ret u), z => exact z
    | .ok .next, z => exact False.elim z
    | .ok .brk, z => exact False.elim z
    | .ok .cont, z => exact False.elim z
    | .error e, z => exact False.elim z⟩
theorem FnG.or {P : Program} {w : World} {K : PySem.W.Frag} {mg : Str → Option Value} {base : Heap} {k : Nat} {f : Addr} {fd : FuncData} {ps : List Str} {sp sp' : Sp} (F : FnG P w K mg base k f fd ps sp) (G : FnG P w K mg base k f fd ps sp') :
    FnG P w K mg base k f fd ps (fun vs H Q E => sp vs H Q E ∨ sp' vs H Q E) :=
  ⟨fun vs H Q E q => q.elim (F.many _ _ _ _) (G.many _ _ _ _), fun A out s G' ar us xs R E hr hg he hb hv hs => hs.elim (F.goes A out s G' ar us xs R E hr hg he hb hv) (G.goes A out s G' ar us xs R E hr hg he hb hv)⟩
/-- data of things that are not long -/
structure Odd (d : PyData) : Prop where
  wd : WdD d
  bd : Bd 1200 3 d
  l24 : lenD d ≤ 24
theorem dx_len {K : PySem.W.Frag} {H : Hp} {x : V} {d : PyData} (h : Dx K H x d) : lenB H x = lenD d := by
  cases h with
  | lst e t => simp only [lenB, e, lenD]; exact t.len
  | tup e t => simp only [lenB, e, lenD]; exact t.len
  | dic e t => simp only [lenB, e, lenD]
  | _ => rfl
theorem dx_add {K : PySem.W.Frag} {H : Hp} {x : V} {d : PyData} (h : Dx K H x d) (m : Int) (n : Nat) : addB m n x = addD m n d := by
  cases h <;> rfl
/-- a pair of things, told as a step -/
theorem pair_step {K : PySem.W.Frag} {H : Hp} {t : Addr} {v1 v2 : V} {d1 d2 : PyData} (ht : H t = some (.tup [v1, v2])) (h1 : Dx K H v1 d1) (h2 : Dx K H v2 d2) (m : Int) : stepB H m (.ref t) = stepQ m (.tuple [d1, d2]) := by
  simp only [stepB, ht, stepQ]
  rw [dx_idx h1, dx_worths h2, dx_len h2, dx_add h1]
theorem pair_good {K : PySem.W.Frag} {H : Hp} {v1 v2 : V} {d1 d2 : PyData} {n : Nat} (h1 : Dx K H v1 d1) (h2 : Dx K H v2 d2) (q : stepQ (n : Nat) (.tuple [d1, d2]) = true) : ∃ f0 b ws, v1 = .int f0 ∧ v2 = .ref b ∧ H b = some (.tup (ivs ws)) ∧ OkS n (some (f0, ws)) := by
  have q : (idxD (n : Nat) d1 && worthsD d2 && addD (n : Nat) (lenD d2) d1) = true := q
  rw [Bool.and_eq_true, Bool.and_eq_true] at q
  obtain ⟨⟨q1, q2⟩, q3⟩ := q
  obtain ⟨e1, b0, b1⟩ := dx_int h1 q1
  obtain ⟨b, e2, hb, ne, bd⟩ := dx_let h2 q2
  refine ⟨intD d1, b, intsD d2, e1, e2, hb, b0, ne, ?_, bd⟩
  have l : lenD d2 = (intsD d2).length := by
    cases d2 with
    | tuple ds => show ds.length = (ds.map intD).length; rw [List.length_map]
    | _ => cases q2
  rw [← dx_add h1, e1, l] at q3
  exact of_decide_eq_true q3
theorem th_pair {K : PySem.W.Frag} {H : Hp} {t : Addr} {v1 v2 : V} {d1 d2 : PyData} (ht : H t = some (.tup [v1, v2])) (h1 : Dx K H v1 d1) (h2 : Dx K H v2 d2) (o1 : WdD d1) (o2 : WdD d2) : Th K H 2 (.ref t) := by
  refine ⟨⟨_, .tup ht, by decide, fun b o u z q => by cases z; rw [ht] at q; cases q⟩, fun a xs e z => ?_⟩
  cases e
  rcases z with z | z
  · rw [ht] at z; cases z
    refine ⟨by show 2 ≤ _; decide, fun y hy => ?_⟩
    simp only [List.mem_cons, List.not_mem_nil, or_false] at hy
    rcases hy with rfl | rfl
    · exact dx_th1 h1 o1
    · exact dx_th1 h2 o2
  · rw [ht] at z; cases z
def sp_arrB (K : PySem.W.Frag) (S C R CE : Addr) : Sp := fun vs H Q E => ∃ (L : List Addr) (x v : V) (s : Sv) (d : PyData), vs = [x, v] ∧ Lok R L H ∧ StV S C (hl L H) x s ∧ Dx K H v d ∧ idxD ((pcs s).length : Nat) d = false ∧ ∀ H', Same H H' → E (.ref CE) none H'
def sp_stpB (K : PySem.W.Frag) (S C R CE : Addr) : Sp := fun vs H Q E => ∃ (L : List Addr) (x v1 v2 : V) (t : Addr) (s : Sv) (d1 d2 : PyData), vs = [x, .ref t] ∧ H t = some (.tup [v1, v2]) ∧ Lok R L H ∧ StV S C (hl L H) x s ∧ Dx K H v1 d1 ∧ Dx K H v2 d2 ∧ WdD d1 ∧ WdD d2 ∧ stepQ (s.pl.cs.length : Nat) (.tuple [d1, d2]) = false ∧ ∀ H', Same H H' → E (.ref CE) none H'
def sp_wrB (K : PySem.W.Frag) (S C R CE : Addr) : Sp := fun vs H Q E => ∃ (L : List Addr) (x el : Addr) (v1 v2 : V) (s : Sv) (es : List Sv) (d1 d2 : PyData), vs = [.ref x, v1, v2] ∧ Lok R L H ∧ StoreV S C R L H x el s es ∧ Dx K H v1 d1 ∧ Dx K H v2 d2 ∧ WdD d1 ∧ WdD d2 ∧ stepQ (s.pl.cs.length : Nat) (.tuple [d1, d2]) = false ∧ ∀ H', Same H H' → E (.ref CE) none H'
def sp_ariB (K : PySem.W.Frag) (S C R CE : Addr) : Sp := fun vs H Q E => ∃ (L : List Addr) (x el : Addr) (v : V) (s : Sv) (es : List Sv) (d : PyData), vs = [.ref x, v] ∧ Lok R L H ∧ StoreV S C R L H x el s es ∧ Dx K H v d ∧ idxD ((pcs s).length : Nat) d = false ∧ ∀ H', Same H H' → E (.ref CE) none H'
section
variable {P : Program} {w : World} {K : PySem.W.Frag} {mg : Str → Option Value} {base : Heap}
theorem ok_arrB {f S C R fS : Addr} {ec : Nat → Addr} {fd fdS : FuncData} (F : Fun K "behind_arrival" "State.behind_arrival" s_State_behind_arrival f fd) (T : Txt mg) (TC : PlanC K mg C) (TS : ObjC K mg "State" S SN) (X0 : ExcC K mg "UnknownPiece" (ec 0)) (X1 : ExcC K mg "Arrived" (ec 1)) (X2 : ExcC K mg "TooEarly" (ec 2))
    (M_State : Mk K S fS) (G_State : FnOk P w K mg base CX0 1 fS fdS ["self", "active", "ranks", "arrived", "held"] (sp_sinit S)) (b_State : Binds K fdS ["self", "active", "ranks", "arrived", "held"] [])
    (P_pieces : PropC P w K mg base C "pieces" (sp_p_pieces C)) (c_is_index : Cal P w K mg base 2 "is_index" ["thing", "many"] (sp_is_index K)) (c_behind_piece : Cal P w K mg base 1 "behind_piece" ["content", "piece"] sp_behind) : FnOk P w K mg base (L2.CX P w) 4 f fd ["self", "piece"] (sp_arrB K S C R (ec 0)) := by
  refine F.okX sc_State_behind_arrival (fun vs H Q E h => ?_) (fun cdv A outer s H vs Q E hr h => ?_)
  · obtain ⟨_, _, _, _, _, rfl, _⟩ := h
    rfl
  obtain ⟨L, xv, v, sv, d, rfl, lk, st, hd, bad, kE⟩ := h
  refine ⟨_, (pss_cons (ps_if (pt_not (pt_val (pe_cal c_is_index hr (pa_cons (pv 1) (pa_cons (pe_callB call_len' (by rfl) T.len (by decide +kernel) (pa_cons (pe_fld (pv 0) rfl) pa_nil)) pa_nil)))))
      (pss_one (ps_raise rfl (takes_of rfl rfl rfl rfl) (pmk_own PySem.F.excBase_ValueError X0.xP X0.gP X0.kP (raises_own X0.bP X0.tP) rfl)))
      pss_nil)
    (pss_cons (ps_if (pt_cmpR (op_inK (K := K) rfl) (pv 1) (pe_fld (pv 0) rfl) (by rfl))
      (pss_one (ps_raise rfl (takes_of rfl rfl rfl rfl) (pmk_own PySem.F.excBase_ValueError X1.xP X1.gP X1.kP (raises_own X1.bP X1.tP) rfl)))
      pss_nil)
    (pss_cons (ps_if (pt_cmpR op_ne (pe_ix ix_seq' (pe_fld (pv 0) rfl) (pv 1) (fun _ _ => rfl)) (pe_ix ix_seq' (pe_fld (pv 0) rfl) (pe_callB call_len' (by rfl) T.len (by decide +kernel) (pa_cons (pe_fld (pv 0) rfl) pa_nil)) (fun _ _ => rfl)) (nomark _))
      (pss_one (ps_raise rfl (takes_of rfl rfl rfl rfl) (pmk_own PySem.F.excBase_ValueError X2.xP X2.gP X2.kP (raises_own X2.bP X2.tP) rfl)))
      pss_nil)
    (pss_cons (ps_set (i := 2) sc_State_behind_arrival.nd rfl (Or.inl rfl) (pe_cal c_behind_piece hr (pa_cons (pe_fld (pv 0) rfl) (pa_cons (pe_ix ix_seq' (pe_propC TC.cl P_pieces hr (pe_fld (pv 0) rfl)) (pv 1) (fun _ _ => rfl)) pa_nil))))
    (pss_one (ps_ret (pe_make M_State G_State (hr.mono (by decide)) rfl TS.mgC b_State .nil pass0 (pa_cons (pe_fld (pv 0) rfl) (pa_cons (pe_fld (pv 0) rfl) (pa_cons (pe_op op_cat' (pe_fld (pv 0) rfl) (pe_lst' (pa_cons (pv 1) pa_nil))) (pa_cons (pv 2) pa_nil))))))))))), ?_⟩
  obtain ⟨a, dx, fs, pa, ra, aa, ha, sl, ql, el, rfl, hx, fl, pF, hra, haa, hha⟩ := st.ex
  have nS : ∀ x ∈ SN, NoAttr K S x := TS.no
  have nr := nS "ranks" (by unfold SN; simp)
  have hxH := hl_in _ _ hx
  have lr : (rkP sv.pl).length = (pcs sv).length := rkP_len sv.pl
  obtain ⟨n, ty⟩ := dx_ty hd
  refine ⟨_, rfl, _, rfl, a, S, dx, fs, _, rfl, hxH, TS.cl, nr, fl.r, ra, _, rfl, .inl (hl_in _ _ hra), _, _, n, rfl, ty, ?_⟩
  refine ⟨_, rfl, ?_⟩
  rw [dx_idx hd, ivs_len, lr, bad]
  exact kE H (Same.refl H)
theorem ok_stpB {f S C R fS fI : Addr} {ec : Nat → Addr} {fd fdS fdI : FuncData} (F : Fun K "behind_step" "State.behind_step" s_State_behind_step f fd) (T : Txt mg) (TC : PlanC K mg C) (TS : ObjC K mg "State" S SN) (X3 : ExcC K mg "TooMany" (ec 3)) {e5 : Addr} (X5 : ExcC K mg "InvalidStep" e5)
    (M_State : Mk K S fS) (G_State : FnOk P w K mg base CX0 1 fS fdS ["self", "active", "ranks", "arrived", "held"] (sp_sinit S)) (b_State : Binds K fdS ["self", "active", "ranks", "arrived", "held"] [])
    (M_Plan : Mk K C fI) (G_Plan : FnOk P w K mg base CX0 6 fI fdI ["self", "base", "width", "steps"] (sp_initX C)) (b_Plan : Binds K fdI ["self", "base", "width", "steps"] [])
    (P_base : PropC P w K mg base C "base" (sp_p_base C)) (P_width : PropC P w K mg base C "width" (sp_p_width C)) (P_steps : PropC P w K mg base C "steps" (sp_p_steps C)) (c_is_step : Cal P w K mg base 4 "is_step" ["cells", "thing"] (sp_is_step K)) (c_is_room : Cal P w K mg base 3 "is_room" ["width", "steps"] sp_roomE)
    (c_piece_epochs : Cal P w K mg base 4 "piece_epochs" ["plan"] (sp_pe C)) : FnOk P w K mg base (L2.CX P w) 8 f fd ["self", "step"] (sp_stpB K S C R e5) := by
  refine F.okX sc_State_behind_step (fun vs H Q E h => ?_) (fun cdv A outer s H vs Q E hr h => ?_)
  · obtain ⟨_, _, _, _, _, _, _, _, rfl, _⟩ := h
    rfl
  obtain ⟨L, xv, v1, v2, t, sv, d1, d2, rfl, ht, lk, st, h1, h2, o1, o2, bad, kE⟩ := h
  refine ⟨_, (pss_cons (ps_set (i := 2) sc_State_behind_step.nd rfl (Or.inl rfl) (pe_fld (pv 0) rfl))
    (pss_cons (ps_if (pt_not (pt_val (pe_cal c_is_step hr (pa_cons (pe_callB call_len' (by rfl) T.len (by decide +kernel) (pa_cons (pe_propC TC.cl P_base hr (pv 2)) pa_nil)) (pa_cons (pv 1) pa_nil)))))
      (pss_one (ps_raise rfl (takes_of rfl rfl rfl rfl) (pmk_own PySem.F.excBase_ValueError X5.xP X5.gP X5.kP (raises_own X5.bP X5.tP) rfl)))
      pss_nil)
    (pss_cons (ps_set (i := 3) sc_State_behind_step.nd rfl (Or.inl rfl) (pe_op op_cat' (pe_propC TC.cl P_steps hr (pv 2)) (pe_lst' (pa_cons (pv 1) pa_nil))))
    (pss_cons (ps_if (pt_not (pt_val (pe_cal c_is_room hr (pa_cons (pe_propC TC.cl P_width hr (pv 2)) (pa_cons (pv 3) pa_nil)))))
      (pss_one (ps_raise rfl (takes_of rfl rfl rfl rfl) (pmk_own PySem.F.excBase_ValueError X3.xP X3.gP X3.kP (raises_own X3.bP X3.tP) rfl)))
      pss_nil)
    (pss_cons (ps_set (i := 4) sc_State_behind_step.nd rfl (Or.inl rfl) (pe_make M_Plan G_Plan (hr.mono (by decide)) rfl TC.mgC b_Plan .nil pass0 (pa_cons (pe_propC TC.cl P_base hr (pv 2)) (pa_cons (pe_propC TC.cl P_width hr (pv 2)) (pa_cons (pv 3) pa_nil)))))
    (pss_one (ps_ret (pe_make M_State G_State (hr.mono (by decide)) rfl TS.mgC b_State .nil pass0 (pa_cons (pv 4) (pa_cons (pe_cal c_piece_epochs hr (pa_cons (pv 4) pa_nil)) (pa_cons (pe_fld (pv 0) rfl) (pa_cons (pe_fld (pv 0) rfl) pa_nil)))))))))))), ?_⟩
  obtain ⟨a, dx, fs, pa, ra, aa, ha, sl, ql, el, rfl, hx, fl, pF, hra, haa, hha⟩ := st.ex
  have nS : ∀ x ∈ SN, NoAttr K S x := TS.no
  have na := nS "active" (by unfold SN; simp)
  have hxH := hl_in _ _ hx
  obtain ⟨pa', ca, xs, ys, epa, pX, hca, hst, hps⟩ := pF.ex
  cases epa
  obtain ⟨⟨dp, fp, hpx, _⟩, _⟩ := id pX
  have pXH := pX.same (hl_in (L := L) (H := H))
  refine ⟨_, rfl, a, S, dx, fs, _, rfl, hxH, TS.cl, na, fl.a, ?_⟩
  refine ⟨_, rfl, pa, dp, fp, rfl, hl_in _ _ hpx, pa, ca, sl, ql, el, sv.pl, xs, ys, rfl, pXH, ca, _, rfl, .inr (hl_in _ _ hca), _, rfl, _, .ref t, rfl, th_pair ht h1 h2 o1 o2, fun H1 s1 => ?_⟩
  rw [ivs_len, pair_step ht h1 h2, bad]
  exact ⟨_, rfl, kE H1 s1⟩
theorem ok_wrB {f S C R CE fG fM : Addr} {fd fdG fdM : FuncData} (F : Fun K "write" "Store.write" s_Store_write f fd) (T : Txt mg) (TR : ObjC K mg "Store" R RN) (TS : ObjC K mg "State" S SN)
    (M_go : Meth K R "_go_on" fG) (G_go : FnOk P w K mg base CX0 1 fG fdG ["self", "state"] (sp_go S C R)) (b_go : Binds K fdG ["self", "state"] [])
    (M_stp : Meth K S "behind_step" fM) (G_stp : FnOk P w K mg base (L2.CX P w) 8 fM fdM ["self", "step"] (sp_stpB K S C R CE)) (b_stp : Binds K fdM ["self", "step"] []) : FnOk P w K mg base (L2.CX P w) 10 f fd ["self", "first", "worths"] (sp_wrB K S C R CE) := by
  refine F.okX sc_Store_write (fun vs H Q E h => ?_) (fun cdv A outer s H vs Q E hr h => ?_)
  · obtain ⟨_, _, _, _, _, _, _, _, _, rfl, _⟩ := h
    rfl
  obtain ⟨L, x, el, v1, v2, sv, es, d1, d2, rfl, lk, st, h1, h2, o1, o2, bad, kE⟩ := h
  refine ⟨_, (pss_one (ps_expr (pe_methX (E := fun _ => E0) (pl := _) (pv 0) TR.cl M_go G_go (hr.mono (by decide)) b_go pass0A (pa_cons (pe_methX (pl := _) (pe_fld (pv 0) rfl) TS.cl M_stp G_stp (hr.mono (by decide)) b_stp (outE (passes_call (takes_of rfl rfl rfl rfl) (fun _ _ _ _ h => h))) (pa_cons (pe_tup' (pa_cons (pv 1) (pa_cons (pv 2) pa_nil))) pa_nil)) pa_nil)))), ?_⟩
  obtain ⟨dx, fs, nv, vs, hx, fl, hel, hn, hes⟩ := st.ex
  obtain ⟨a, dxs, fss, pa, ra, aa, ha, sl, ql, el', ev, hxs, fls, pF, hra, haa, hha⟩ := id hn.ex
  have nR : ∀ x ∈ RN, NoAttr K R x := TR.no
  have nn := nR "_now" (by unfold RN; simp)
  refine ⟨_, rfl, x, dx, fs, rfl, hx, fl.no _ (by unfold RM; simp), _, rfl, x, R, dx, fs, _, rfl, hx, TR.cl, nn, fl.n, a, dxs, fss, ev, hl_in _ _ hxs, fls.no _ (by unfold TM; simp), _, rfl, _, rfl, szr, fun t H1 n1 s1 ht1 => ?_⟩
  exact ⟨L, nv, v1, v2, t, sv, d1, d2, rfl, ht1, lk.same s1, hn.same (hl_same s1), Dx.same s1 h1, Dx.same s1 h2, o1, o2, bad, fun H' m => kE H' (s1.trans m)⟩
theorem ok_ariB {f S C R CE fG fM : Addr} {fd fdG fdM : FuncData} (F : Fun K "arrive" "Store.arrive" s_Store_arrive f fd) (T : Txt mg) (TR : ObjC K mg "Store" R RN) (TS : ObjC K mg "State" S SN)
    (M_go : Meth K R "_go_on" fG) (G_go : FnOk P w K mg base CX0 1 fG fdG ["self", "state"] (sp_go S C R)) (b_go : Binds K fdG ["self", "state"] [])
    (M_arr : Meth K S "behind_arrival" fM) (G_arr : FnOk P w K mg base (L2.CX P w) 4 fM fdM ["self", "piece"] (sp_arrB K S C R CE)) (b_arr : Binds K fdM ["self", "piece"] []) : FnOk P w K mg base (L2.CX P w) 10 f fd ["self", "piece"] (sp_ariB K S C R CE) := by
  refine F.okX sc_Store_arrive (fun vs H Q E h => ?_) (fun cdv A outer s H vs Q E hr h => ?_)
  · obtain ⟨_, _, _, _, _, _, _, rfl, _⟩ := h
    rfl
  obtain ⟨L, x, el, v, sv, es, d, rfl, lk, st, hd, bad, kE⟩ := h
  refine ⟨_, (pss_one (ps_expr (pe_methX (E := fun _ => E0) (pl := _) (pv 0) TR.cl M_go G_go (hr.mono (by decide)) b_go pass0A (pa_cons (pe_methX (pl := _) (pe_fld (pv 0) rfl) TS.cl M_arr G_arr (hr.mono (by decide)) b_arr (outE (passes_call (takes_of rfl rfl rfl rfl) (fun _ _ _ _ h => h))) (pa_cons (pv 1) pa_nil)) pa_nil)))), ?_⟩
  obtain ⟨dx, fs, nv, vs, hx, fl, hel, hn, hes⟩ := st.ex
  obtain ⟨a, dxs, fss, pa, ra, aa, ha, sl, ql, el', ev, hxs, fls, pF, hra, haa, hha⟩ := id hn.ex
  have nR : ∀ x ∈ RN, NoAttr K R x := TR.no
  have nn := nR "_now" (by unfold RN; simp)
  refine ⟨_, rfl, x, dx, fs, rfl, hx, fl.no _ (by unfold RM; simp), _, rfl, x, R, dx, fs, _, rfl, hx, TR.cl, nn, fl.n, a, dxs, fss, ev, hl_in _ _ hxs, fls.no _ (by unfold TM; simp), _, rfl, ?_⟩
  exact ⟨L, nv, v, sv, d, rfl, lk, hn, hd, bad, kE⟩
end
end Af

set_option Elab.async false
set_option linter.all false
set_option maxRecDepth 100000
set_option maxHeartbeats 8000000
namespace Af
open PySem PySem.Spec L2
mutual
theorem Dx.dp {K : PySem.W.Frag} {H : Hp} : ∀ {v : V} {d : PyData}, Dx K H v d → d.hasDict = false → Dp K H v d
  | _, _, .non, _ => .non
  | _, _, .bl b, _ => .bl b
  | _, _, .int i, _ => .int i
  | _, _, .str x, _ => .str x
  | _, _, .lst e t, h => .lst (SqL.of e) (DxAll.dp t (by simpa only [PyData.hasDict] using h))
  | _, _, .tup e t, h => .tup (SqT.of e) (DxAll.dp t (by simpa only [PyData.hasDict] using h))
  | _, _, .dic e t, h => by simp [PyData.hasDict] at h
theorem DxAll.dp {K : PySem.W.Frag} {H : Hp} : ∀ {vs : List V} {ds : List PyData}, DxAll K H vs ds → PyData.hasDictAll ds = false → DpAll K H vs ds
  | _, _, .nil, _ => .nil
  | _, _, .cons r t, h => by
    simp only [PyData.hasDictAll, Bool.or_eq_false_iff] at h
    exact .cons (Dx.dp r h.1) (DxAll.dp t h.2)
end
theorem dx_tup_or {K : PySem.W.Frag} {H : Hp} {x : V} {d : PyData} (h : Dx K H x d) : (∃ a xs ds, x = .ref a ∧ H a = some (.tup xs) ∧ d = .tuple ds ∧ DxAll K H xs ds) ∨ (∃ n, Ty K H x n ∧ isB n "tuple" = false ∧ ∀ ds, d ≠ .tuple ds) := by
  cases h with
  | non => exact .inr ⟨_, ⟨.non, by decide, fun _ _ _ e => by cases e⟩, by decide, fun _ e => by cases e⟩
  | bl b => exact .inr ⟨_, ⟨.bl b, by decide, fun _ _ _ e => by cases e⟩, by decide, fun _ e => by cases e⟩
  | int i => exact .inr ⟨_, ⟨.int i, by decide, fun _ _ _ e => by cases e⟩, by decide, fun _ e => by cases e⟩
  | str z => exact .inr ⟨_, ⟨.str z, by decide, fun _ _ _ e => by cases e⟩, by decide, fun _ e => by cases e⟩
  | lst e t => exact .inr ⟨_, ⟨.lst e, by decide, fun b o u z q => by cases z; rw [e] at q; cases q⟩, by decide, fun _ e => by cases e⟩
  | tup e t => exact .inl ⟨_, _, _, rfl, e, rfl, t⟩
  | dic e t => exact .inr ⟨_, ty_d e, by decide, fun _ e => by cases e⟩
theorem idx_d {m : Int} {d : PyData} (h : idxD m d = true) : d = .int (intD d) := by
  cases d with
  | int i => rfl
  | _ => cases h
/-- a tuple among them can be compared -/
def ShT (d : PyData) : Prop := ∀ ds, d = .tuple ds → PySem.SeqAt.shaped (.tuple ds) = true
inductive Bc where
  | wr (d1 d2 : PyData)
  | ari (d : PyData)
def BcV (K : PySem.W.Frag) (H : Hp) (t : Addr) : Bc → Prop
  | .wr d1 d2 => ∃ v1 v2, H t = some (.tup [.str "write", v1, v2]) ∧ Dx K H v1 d1 ∧ Dx K H v2 d2
  | .ari d => ∃ v, H t = some (.tup [.str "arrive", v]) ∧ Dx K H v d
theorem BcV.same {K : PySem.W.Frag} {H H' : Hp} {t : Addr} {b : Bc} (h : BcV K H t b) (s : Same H H') : BcV K H' t b := by
  cases b with
  | wr d1 d2 => obtain ⟨v1, v2, h1, h2, h3⟩ := h; exact ⟨v1, v2, s _ _ h1, Dx.same s h2, Dx.same s h3⟩
  | ari d => obtain ⟨v, h1, h2⟩ := h; exact ⟨v, s _ _ h1, Dx.same s h2⟩
def BcG (n m : Nat) : Bc → Prop
  | .wr d1 d2 => Odd d1 ∧ Odd d2 ∧ ShT d2 ∧ stepQ (n : Nat) (.tuple [d1, d2]) = false
  | .ari d => Odd d ∧ idxD (m : Nat) d = false
def wdB : Bc → Str
  | .wr _ _ => "step"
  | .ari _ => "piece"
def bcD : Bc → PyData
  | .wr d1 d2 => .tuple [.str "write", d1, d2]
  | .ari d => .tuple [.str "arrive", d]
theorem dx_bc {K : PySem.W.Frag} {H : Hp} {t : Addr} {b : Bc} (h : BcV K H t b) : Dx K H (.ref t) (bcD b) := by
  cases b with
  | wr d1 d2 => obtain ⟨v1, v2, h1, h2, h3⟩ := h; exact .tup h1 (.cons (.str _) (.cons h2 (.cons h3 .nil)))
  | ari d => obtain ⟨v, h1, h2⟩ := h; exact .tup h1 (.cons (.str _) (.cons h2 .nil))
theorem bd_bc {n m : Nat} {b : Bc} (g : BcG n m b) : Bd 10000 4 (bcD b) := by
  have go : ∀ {ds : List PyData}, ds.length ≤ 3 → (∀ d ∈ ds, Bd 1200 3 d) → Bd 10000 4 (.tuple ds) := fun h q => (Bd.tup q h).mono (by decide) (by decide)
  cases b with
  | wr d1 d2 =>
    refine go (show 3 ≤ 3 by decide) fun d hd => ?_
    simp only [List.mem_cons, List.not_mem_nil, or_false] at hd
    rcases hd with rfl | rfl | rfl
    · exact (bd_str _ (by simp)).mono (by decide) (by decide)
    · exact g.1.bd
    · exact g.2.1.bd
  | ari d =>
    refine go (show 2 ≤ 3 by decide) fun d hd => ?_
    simp only [List.mem_cons, List.not_mem_nil, or_false] at hd
    rcases hd with rfl | rfl
    · exact (bd_str _ (by simp)).mono (by decide) (by decide)
    · exact g.1.bd
theorem bc_hd {K : PySem.W.Frag} {H : Hp} {t : Addr} {b : Bc} (h : BcV K H t b) : ∃ w rest, H t = some (.tup (.str w :: rest)) ∧ w ∈ (["write", "barrier", "lose", "arrive"] : List Str) := by
  cases b with
  | wr d1 d2 => obtain ⟨v1, v2, h1, h2, h3⟩ := h; exact ⟨_, _, h1, by simp⟩
  | ari d => obtain ⟨v, h1, h2⟩ := h; exact ⟨_, _, h1, by simp⟩
def sp_listepB (K : PySem.W.Frag) : Sp := fun vs H Q _ => ∃ (n : Nat) (v1 v2 : V) (d1 d2 : PyData), vs = [.int (n : Nat), v1, v2] ∧ Dx K H v1 d1 ∧ Dx K H v2 d2 ∧ Odd d1 ∧ Odd d2 ∧ ShT d2 ∧ n ≤ 24 ∧ stepQ (n : Nat) (.tuple [d1, d2]) = false ∧ ∀ H', Same H H' → Q (.bl false) H'
def sp_dueB (K : PySem.W.Frag) : Sp := fun vs H Q _ => ∃ (pg t sa fa : Addr) (s : Sv) (b : Bc), vs = [.ref pg, .ref t] ∧ PageX H (.ref pg) s.pl s.came sa fa ∧ PgOk s ∧ BcV K H t b ∧ BcG s.pl.cs.length (pcs s).length b ∧ ∀ H', Same H H' → Q (.str (wdB b)) H'
def sp_outcomeB (K : PySem.W.Frag) (S C R : Addr) : Sp := fun vs H Q _ => ∃ (L : List Addr) (x el t : Addr) (s : Sv) (es : List Sv) (b : Bc), vs = [.ref x, .ref t] ∧ Lok R L H ∧ StoreV S C R L H x el s es ∧ BcV K H t b ∧ BcG s.pl.cs.length (pcs s).length b ∧ ∀ p H', Same H H' → H' p = some (.tup [.str (wdB b), .non]) → Q (.ref p) H'
def sp_calledB (K : PySem.W.Frag) (S C R : Addr) : Sp := fun vs H Q _ => ∃ (L : List Addr) (x el pg t : Addr) (s : Sv) (es : List Sv) (b : Bc), vs = [.ref x, .ref pg, .ref t] ∧ DuoV S C R L H x el pg s es ∧ BcV K H t b ∧ BcG s.pl.cs.length (pcs s).length b ∧ ∀ H', Same H H' → Q (.bl true) H'
theorem pair_shB : ∀ w ∈ (["step", "piece"] : List Str), PySem.SeqAt.shaped (pairD w) = true ∧ PyData.eqv (pairD w) (pairD w) = true ∧ decide (V.str w = V.str "") = false := by decide +kernel
theorem wdB_in (b : Bc) : wdB b ∈ (["step", "piece"] : List Str) := by cases b <;> simp [wdB]
section
variable {P : Program} {w : World} {K : PySem.W.Frag} {mg : Str → Option Value} {base : Heap}
theorem ok_listepB {f : Addr} {fd : FuncData} (F : Fun K "_law_is_step" "_law_is_step" s_l_is_step f fd) (T : Txt mg) (c_l_is_below : Cal P w K mg base 1 "_law_is_below" ["_law_thing", "_law_under"] (sp_is_index K)) : FnOk P w K mg base CX0 2 f fd ["_law_cells", "_law_first", "_law_row"] (sp_listepB K) := by
  refine F.ok sc_l_is_step (fun vs H Q E h => ?_) (fun cdv A outer s H vs Q E hr h => ?_)
  · obtain ⟨_, _, _, _, _, rfl, _⟩ := h
    rfl
  obtain ⟨n, v1, v2, d1, d2, rfl, h1, h2, o1, o2, sh, n24, bad, k⟩ := h
  refine ⟨_, (pss_cons (ps_cut (ps_if (PW.pt (pw_or (pt_not (pt_val (pe_cal c_l_is_below hr (pa_cons (pv 1) (pa_cons (pv 0) pa_nil))))) (pw_or (pt_not (pt_val (pe_callB call_isi' (by rfl) T.isinstance (by decide +kernel) (pa_cons (pv 2) (pa_cons (pe_bltn (v := .ty "tuple") (by rfl) T.tuple (by decide +kernel) rfl) pa_nil))))) (pw_or1 (pt_cmpR (op_eqD hr.units) (pv 2) (pe_tup' pa_nil) (nomark _))))))
      (pss_one (ps_ret pe_bl))
      pss_nil))
    (pss_one (ps_ret (pe_and (pe_callB (cr_all rfl) (by rfl) T.all (by decide +kernel) (pa_cons (pe_lc (own := [("_law_one", 3)]) (g := (gName 3)) (tt := tYes) rfl sc_l_is_step.nd (pi_tup (pv 2)) (blkOk_by (own := [("_law_one", 3)]) (N := N_l_is_step) (sc := defScope s_l_is_step) (by decide +kernel)) (fun _ _ _ _ _ => pg_name (i := 3) sc_l_is_step.nd rfl (Or.inl rfl)) (fun _ _ _ _ _ => pts_nil) (fun _ _ _ _ _ => (pe_cal c_l_is_below hr (pa_cons (pv 3) (pa_cons pe_int pa_nil))))) pa_nil)) (pe_one (pe_cmpR op_le (pe_op op_add (pv 1) (pe_callB call_len' (by rfl) T.len (by decide +kernel) (pa_cons (pv 2) pa_nil))) (pv 0) (nomark _))))))), ?_⟩
  have bad : (idxD (n : Nat) d1 && worthsD d2 && addD (n : Nat) (lenD d2) d1) = false := bad
  obtain ⟨ty1, t1⟩ := dx_ty h1
  refine ⟨fun σ' H' => ∃ f0 b xs ds, σ' = [some (.int (n : Nat)), some (.int f0), some (.ref b), none] ∧ d1 = .int f0 ∧ d2 = .tuple ds ∧ ds ≠ [] ∧ H' b = some (.tup xs) ∧ DxAll K H' xs ds ∧ idxD (n : Nat) d1 = true ∧ Same H H', ?_, ?_⟩
  · refine ⟨_, rfl, _, rfl, _, _, ty1, rfl, t1, ?_⟩
    rw [dx_idx h1]
    cases c1 : idxD (n : Nat) d1 with
    | false => exact ⟨_, rfl, iteT (iteT (k H (Same.refl _)))⟩
    | true =>
      obtain ⟨e1, b0, b1⟩ := dx_int h1 c1
      refine ⟨_, rfl, iteF ?_⟩
      rcases dx_tup_or h2 with ⟨a, xs, ds, rfl, ha, rfl, dxs⟩ | ⟨m, tm, nt, nd⟩
      · have tt : Ty K H (.ref a) "tuple" := ⟨.tup ha, by decide, fun b o u z q => by cases z; rw [ha] at q; cases q⟩
        refine ⟨_, rfl, .ref a, "tuple", "tuple", rfl, tt, by decide, _, rfl, ?_⟩
        rw [show isB "tuple" "tuple" = true by decide]
        have shd := sh ds rfl
        refine iteF ⟨_, rfl, szr, fun t0 H1 n1 s1 h1' => ⟨.tuple ds, .tuple [], .tup (SqT.of (s1 _ _ ha)) (DxAll.dp (DxAll.same s1 dxs) ?_), .tup (SqT.of h1') .nil, shd, rfl, _, rfl, ?_⟩⟩
        · have := PyData.hasDict_of_canLay _ (PySem.SeqAt.canLay_of_shaped shd)
          simpa only [PyData.hasDict] using this
        · cases ds with
          | nil => exact iteT (k H1 s1)
          | cons y ys =>
            refine iteF ⟨intD d1, a, xs, y :: ys, ?_, ?_, rfl, by simp, s1 _ _ ha, DxAll.same s1 dxs, rfl, s1⟩
            · rw [e1]; rfl
            · exact idx_d c1
      · refine ⟨_, rfl, v2, m, "tuple", rfl, tm, by decide, _, rfl, ?_⟩
        rw [nt]
        exact iteT (iteT (k H (Same.refl _)))
  · rintro σ' H1 ⟨f0, b, xs, ds, rfl, rfl, rfl, dne, hb, dxs, c1, s1⟩
    have xl := dxs.len
    have dl : ds.length ≤ 1000 := o2.wd ds (.inl rfl)
    refine ⟨_, rfl, b, rfl, ⟨_, SqT.of hb⟩, fun D hD => lc_tup (K := K) (a := b) (xs := xs) (fun i H' => Same H1 H' ∧ H' D = some (.lst (((ds.take i).map (idxD 8)).map V.bl))) ?_ ?_ ?_ ?_⟩
    · exact ⟨same_new hD, upd_same⟩
    · rintro i H' _ ⟨s2, _⟩
      exact SqT.of (s2 _ _ hb)
    · rintro i y H2 hy ⟨s2, h2'⟩
      obtain ⟨d, hd, dy⟩ := (DxAll.same s2 dxs).at hy
      obtain ⟨ny, tyy⟩ := dx_ty dy
      have il : i < ds.length := (List.getElem?_eq_some_iff.mp hd).1
      refine ⟨rfl, _, rfl, _, _, ny, rfl, tyy, ?_⟩
      rw [dx_idx dy]
      refine ⟨_, h2', szl (by rw [List.length_map, List.length_map, List.length_take]; omega), same_mut s2 hD, ?_⟩
      rw [upd_same, List.take_succ, hd, List.map_append, List.map_append]
      rfl
    · rintro H2 ⟨s2, h2'⟩
      rw [xl, List.take_length] at h2'
      have S2 := s1.trans s2
      refine ⟨D, ds.map (idxD 8), rfl, SqL.of h2', ?_⟩
      have e : (ds.map (idxD 8)).all id = ds.all (idxD 8) := by rw [List.all_map]; rfl
      rw [e]
      have ne : (!ds.isEmpty) = true := by
        cases ds with
        | nil => exact absurd rfl dne
        | cons _ _ => rfl
      cases c2 : ds.all (idxD 8) with
      | false => exact ⟨_, rfl, iteF (k H2 S2)⟩
      | true =>
        have w2 : worthsD (.tuple ds) = true := by show (!ds.isEmpty && ds.all (idxD 8)) = true; rw [ne, c2]; rfl
        rw [c1, w2] at bad
        have bad : decide (f0 + ((ds.length : Nat) : Int) ≤ ((n : Nat) : Int)) = false := bad
        refine ⟨_, rfl, iteT ?_⟩
        refine ⟨_, rfl, _, rfl, b, _, rfl, .inr (s2 _ _ hb), _, _, rfl, rfl, _, rfl, _, _, rfl, rfl, ?_⟩
        rw [xl]
        have q := k H2 S2
        rw [← bad] at q
        exact q
theorem ok_dueB {f : Addr} {fd : FuncData} (F : Fun K "_law_store_due" "_law_store_due" s_l_store_due f fd) (T : Txt mg) (c_l_parts : Cal P w K mg base 1 "_law_parts" ["_law_triple"] (sp_lparts K)) (c_l_is_below : Cal P w K mg base 1 "_law_is_below" ["_law_thing", "_law_under"] (sp_is_index K))
    (c_l_is_step : Cal P w K mg base 2 "_law_is_step" ["_law_cells", "_law_first", "_law_row"] (sp_listepB K)) (c_l_longer : Cal P w K mg base 2 "_law_longer" ["_law_page_here", "_law_step_here"] sp_longer) (c_l_held : Cal P w K mg base 2 "_law_held" ["_law_page_here"] sp_lheld)
    (c_l_is_early : Cal P w K mg base 1 "_law_is_early" ["_law_parts_here", "_law_arrived", "_law_k"] (sp_early K)) : FnOk P w K mg base CX0 3 f fd ["_law_page_here", "_law_call_here"] (sp_dueB K) := by
  refine F.ok sc_l_store_due (fun vs H Q E h => ?_) (fun cdv A outer s H vs Q E hr h => ?_)
  · obtain ⟨_, _, _, _, _, _, rfl, _⟩ := h
    rfl
  obtain ⟨pg, t, sa, fa, sv, b, rfl, pgv, g, hc, gc, k⟩ := h
  obtain ⟨pg', rows, tr, ca, xs, epg, hpg, vp, vc, htr, hca, hsa, hst, hf, r10⟩ := id pgv
  cases epg
  refine ⟨_, (pss_cons (ps_set (i := 2) sc_l_store_due.nd rfl (Or.inl rfl) (pe_ix ix_seq' (pv 1) pe_int (fun _ _ => rfl)))
    (pss_cons (ps_if (pt_cmpR op_eq (pv 2) pe_str (nomark _))
      (pss_cons (ps_if (pt_not (pt_val (pe_cal c_l_is_step hr (pa_cons (pe_callB call_len' (by rfl) T.len (by decide +kernel) (pa_cons (pe_ix ix_seq' (pe_dget hr.u1 (pv 0) pe_str (fun _ _ => rfl)) pe_int (fun _ _ => rfl)) pa_nil)) (pa_cons (pe_ix ix_seq' (pv 1) pe_int (fun _ _ => rfl)) (pa_cons (pe_ix ix_seq' (pv 1) pe_int (fun _ _ => rfl)) pa_nil))))))
      (pss_one (ps_ret pe_str))
      pss_nil)
    (pss_one (ps_ret (pe_cal c_l_longer hr (pa_cons (pv 0) (pa_cons (pe_tup' (pa_cons (pe_ix ix_seq' (pv 1) pe_int (fun _ _ => rfl)) (pa_cons (pe_ix ix_seq' (pv 1) pe_int (fun _ _ => rfl)) pa_nil))) pa_nil))))))
      pss_nil)
    (pss_cons (ps_if (pt_cmpR op_eq (pv 2) pe_str (nomark _))
      (pss_one (ps_ret (pe_cal c_l_longer hr (pa_cons (pv 0) (pa_cons pe_non pa_nil)))))
      pss_nil)
    (pss_cons (ps_if (pt_cmpR op_eq (pv 2) pe_str (nomark _))
      (pss_cons (ps_expr (pe_bm PySem.F.plainAttrs_dict PySem.F.slot_dict_update PySem.F.type_dict_update mt_update (pv 0) (pa_cons (pe_disp (pps_cons pe_str (pe_tup' (pa_cons (pe_cal c_l_held hr (pa_cons (pv 0) pa_nil)) (pa_cons (pe_ix ix_seq' (pe_dget hr.u1 (pv 0) pe_str (fun _ _ => rfl)) pe_int (fun _ _ => rfl)) (pa_cons (pe_lst' pa_nil) pa_nil)))) (pps_cons pe_str (pe_lst' pa_nil) pps_nil)) rfl rfl (by simp) (by decide)) pa_nil)))
    (pss_one (ps_ret pe_str)))
      pss_nil)
    (pss_cons (ps_set (i := 3) sc_l_store_due.nd rfl (Or.inl rfl) (pe_cal c_l_parts hr (pa_cons (pe_dget hr.u1 (pv 0) pe_str (fun _ _ => rfl)) pa_nil)))
    (pss_cons (ps_if (pt_not (pt_val (pe_cal c_l_is_below hr (pa_cons (pe_ix ix_seq' (pv 1) pe_int (fun _ _ => rfl)) (pa_cons (pe_callB call_len' (by rfl) T.len (by decide +kernel) (pa_cons (pv 3) pa_nil)) pa_nil)))))
      (pss_one (ps_ret pe_str))
      pss_nil)
    (pss_cons (ps_if (pt_cmpR op_in_seq (pe_ix ix_seq' (pv 1) pe_int (fun _ _ => rfl)) (pe_dget hr.u1 (pv 0) pe_str (fun _ _ => rfl)) (by rfl))
      (pss_one (ps_ret pe_str))
      pss_nil)
    (pss_cons (ps_if (pt_val (pe_cal c_l_is_early hr (pa_cons (pv 3) (pa_cons (pe_dget hr.u1 (pv 0) pe_str (fun _ _ => rfl)) (pa_cons (pe_ix ix_seq' (pv 1) pe_int (fun _ _ => rfl)) pa_nil)))))
      (pss_one (ps_ret pe_str))
      pss_nil)
    (pss_cons (ps_asg (pe_op op_cat' (pe_dget hr.u1 (pv 0) pe_str (fun _ _ => rfl)) (pe_lst' (pa_cons (pe_ix ix_seq' (pv 1) pe_int (fun _ _ => rfl)) pa_nil))) (pg_sub (pv 0) pe_str (set_dict hr.u1)))
    (pss_one (ps_ret pe_str))))))))))), ?_⟩
  have gp : ∀ {G : Hp}, Same H G → DGet G pg (.str "plan") (some (.ref tr)) := fun s => .inl ⟨rows, .inr "plan", .inl (s _ _ hpg), rfl, vp.symm⟩
  have xl : xs.length = sv.pl.sts.length := paired_len hst
  have sl := g.pl.sl
  have c24 := g.pl.c24
  have w1 := g.pl.w1
  cases b with
  | wr d1 d2 =>
    obtain ⟨v1, v2, ht, q1, q2⟩ := hc
    obtain ⟨o1, o2, sh, bad⟩ := gc
    refine ⟨_, rfl, t, _, 0, _, rfl, rfl, .inr ht, rfl, _, rfl, rfl, _, rfl, iteT' (by decide +kernel) ?_⟩
    refine ⟨_, rfl, pg, .ref tr, rfl, gp (Same.refl _), tr, _, 0, _, rfl, rfl, .inr htr, rfl, ca, _, rfl, .inr hca, _, rfl, t, _, 1, _, rfl, rfl, .inr ht, rfl, _, rfl, t, _, 2, _, rfl, rfl, .inr ht, rfl, sv.pl.cs.length, v1, v2, d1, d2, by rw [ivs_len], q1, q2, o1, o2, sh, c24, bad, fun H1 s1 => ⟨_, rfl, iteT ?_⟩⟩
    exact k H1 s1
  | ari d =>
    obtain ⟨v, ht, q1⟩ := hc
    obtain ⟨o1, bad⟩ := gc
    refine ⟨_, rfl, t, _, 0, _, rfl, rfl, .inr ht, rfl, _, rfl, rfl, _, rfl, iteF' (by decide +kernel) ?_⟩
    refine ⟨_, rfl, rfl, _, rfl, iteF' (by decide +kernel) ?_⟩
    refine ⟨_, rfl, rfl, _, rfl, iteF' (by decide +kernel) ?_⟩
    refine ⟨_, rfl, pg, .ref tr, rfl, gp (Same.refl _), ?_⟩
    refine ⟨tr, sa, ca, sv.pl.w, xs, sv.pl.sts, rfl, htr, hsa, hst, by omega, by omega, fun x hx => (g.pl.st x hx).wide c24, fun l H1 ys s1 n1 h1 p1 => ?_⟩
    have yl : ys.length = (pcs sv).length := by rw [paired_len p1, pts_len]; rfl
    have q1' := Dx.same s1 q1
    obtain ⟨ny, tyy⟩ := dx_ty q1'
    refine ⟨_, rfl, t, _, 1, _, rfl, rfl, .inr (s1 _ _ ht), rfl, _, rfl, l, _, rfl, .inl h1, v, _, ny, rfl, tyy, ⟨_, rfl, ?_⟩⟩
    rw [dx_idx q1', yl, bad]
    exact iteT (k H1 s1)
def tb_l_outcomeB (K : PySem.W.Frag) (S C R : Addr) (ec : Nat → Addr) (EN : Addr) (W : WX) : TS := tIfS (tTest (tOp (rIn K false) (tOp rIx' (tVar 1) (tC (.int 0))) (tTup' (tCons (tC (.str "write")) (tCons (tC (.str "barrier")) tNil)))))
  (tAsg (tIf (tTest (tOp rEq (tOp rIx' (tVar 1) (tC (.int 0))) (tC (.str "write")))) (tMethX R "write" (sp_wrB K S C R (ec 4)) (WE W) (tVar 0) (tCons (tOp rIx' (tVar 1) (tC (.int 1))) (tCons (tOp rIx' (tVar 1) (tC (.int 2))) tNil))) (tMethX R "barrier" (sp_bar S C R ec) (WE W) (tVar 0) tNil)) (gName 3))
  (tIfS (tTest (tOp (rIn K false) (tOp rIx' (tVar 1) (tC (.int 0))) (tTup' (tCons (tC (.str "arrive")) (tCons (tC (.str "lose")) tNil)))))
    (tAsg (tIf (tTest (tOp rEq (tOp rIx' (tVar 1) (tC (.int 0))) (tC (.str "arrive")))) (tMethX R "arrive" (sp_ariB K S C R (ec 0)) (WE W) (tVar 0) (tCons (tOp rIx' (tVar 1) (tC (.int 1))) tNil)) (tMethX R "lose" (sp_lose S C R) (fun _ => E0) (tVar 0) tNil)) (gName 3))
    (tAsg (tMethX R "undo" (sp_undo S C R EN) (WE W) (tVar 0) tNil) (gName 3)))
theorem ok_outcomeB {f S C R CF fW fB fA fL fU : Addr} {kc : Nat → Addr} {fd fdW fdB fdA fdL fdU : FuncData} (F : Fun K "_law_outcome" "_law_outcome" s_l_outcome f fd) (T : Txt mg) (TR : ObjC K mg "Store" R RN) (X : ErrK K mg CF kc)
    (M_wr : Meth K R "write" fW) (G_wr : FnOk P w K mg base (L2.CX P w) 10 fW fdW ["self", "first", "worths"] (sp_wrB K S C R (kc 0))) (b_wr : Binds K fdW ["self", "first", "worths"] [])
    (M_bar : Meth K R "barrier" fB) (G_bar : FnOk P w K mg base (L2.CX P w) 10 fB fdB ["self"] (sp_bar S C R (fun k => kc (ek k)))) (b_bar : Binds K fdB ["self"] [])
    (M_ari : Meth K R "arrive" fA) (G_ari : FnOk P w K mg base (L2.CX P w) 10 fA fdA ["self", "piece"] (sp_ariB K S C R (kc 2))) (b_ari : Binds K fdA ["self", "piece"] [])
    (M_lose : Meth K R "lose" fL) (G_lose : FnOk P w K mg base CX0 10 fL fdL ["self"] (sp_lose S C R)) (b_lose : Binds K fdL ["self"] [])
    (M_undo : Meth K R "undo" fU) (G_undo : FnOk P w K mg base (L2.CX P w) 1 fU fdU ["self"] (sp_undo S C R (kc 5))) (b_undo : Binds K fdU ["self"] [])
    (c_l_error : Cal P w K mg base 1 "_law_error" ["_law_caught"] (sp_error K kc)) : FnOk P w K mg base CX0 12 f fd ["_law_store", "_law_call_here"] (sp_outcomeB K S C R) := by
  have g_FallError := X.gF
  obtain ⟨ec, e0, e4, eb⟩ : ∃ ec : Nat → Addr, ec 0 = kc 2 ∧ ec 4 = kc 0 ∧ ∀ k, k < 4 → ec k = kc (ek k) := ⟨fun k => if k = 4 then kc 0 else kc (ek k), rfl, rfl, fun k hk => if_neg (by omega)⟩
  obtain ⟨EN, eEN⟩ : ∃ EN : Addr, EN = kc 5 := ⟨_, rfl⟩
  rw [← e4] at G_wr
  rw [← e0] at G_ari
  rw [← eEN] at G_undo
  have G_bar : FnOk P w K mg base (L2.CX P w) 10 fB fdB ["self"] (sp_bar S C R ec) := G_bar.imp fun vs H Q E h => by
    obtain ⟨L, x, el, s, es, e, lk, st, le, kE, kQ⟩ := h
    exact ⟨L, x, el, s, es, e, lk, st, le, fun k q H' m => by
      have := kE k q H' m
      rw [eb k (by
        unfold stpOut at q
        split at q
        · cases q
        · cases q; decide)] at this
      exact this, kQ⟩
  refine F.ok sc_l_outcome (fun vs H Q E h => ?_) (fun cdv A outer s H vs Q E hr h => ?_)
  · obtain ⟨_, _, _, _, _, _, _, rfl, _⟩ := h
    rfl
  obtain ⟨L, x, el, t, sv, es, b, rfl, lk, st, hc, gc, k'⟩ := h
  refine ⟨_, (pss_cons (ps_set (i := 2) sc_l_outcome.nd rfl (Or.inl rfl) pe_non)
    (pss_cons (ps_set (i := 3) sc_l_outcome.nd rfl (Or.inl rfl) pe_non)
    (pss_cons (ps_try_hold (i := 4) (tb := tb_l_outcomeB K S C R ec EN) (ts := ts_l_outcome) (Wout := fun _ _ _ _ => False) rfl rfl sc_l_outcome.nd rfl rfl rfl ⟨rfl, by decide, .inl g_FallError⟩ takes0
      (fun W pn xe tk _ => (pss_one (ps_if (pt_cmpR (op_inK (K := K) rfl) (pe_ix ix_seq' (pv 1) pe_int (fun _ _ => rfl)) (pe_tup' (pa_cons pe_str (pa_cons pe_str pa_nil))) (by rfl))
      (pss_one (ps_set (i := 3) sc_l_outcome.nd rfl (Or.inl rfl) (pe_ifExp (pt_cmpR op_eq (pe_ix ix_seq' (pv 1) pe_int (fun _ _ => rfl)) pe_str (nomark _)) (pe_methX (pl := _) (pv 0) TR.cl M_wr G_wr (hr.mono (by decide)) b_wr (fun σ => passAt tk σ) (pa_cons (pe_ix ix_seq' (pv 1) pe_int (fun _ _ => rfl)) (pa_cons (pe_ix ix_seq' (pv 1) pe_int (fun _ _ => rfl)) pa_nil))) (pe_meth0X (pl := _) (pv 0) TR.cl M_bar G_bar (hr.mono (by decide)) b_bar (fun σ => passAt tk σ)))))
      (pss_one (ps_if (pt_cmpR (op_inK (K := K) rfl) (pe_ix ix_seq' (pv 1) pe_int (fun _ _ => rfl)) (pe_tup' (pa_cons pe_str (pa_cons pe_str pa_nil))) (by rfl))
      (pss_one (ps_set (i := 3) sc_l_outcome.nd rfl (Or.inl rfl) (pe_ifExp (pt_cmpR op_eq (pe_ix ix_seq' (pv 1) pe_int (fun _ _ => rfl)) pe_str (nomark _)) (pe_methX (pl := _) (pv 0) TR.cl M_ari G_ari (hr.mono (by decide)) b_ari (fun σ => passAt tk σ) (pa_cons (pe_ix ix_seq' (pv 1) pe_int (fun _ _ => rfl)) pa_nil)) (pe_meth0X (E := fun _ => E0) (pl := _) (pv 0) TR.cl M_lose G_lose (hr.mono (by decide)) b_lose pass0A))))
      (pss_one (ps_set (i := 3) sc_l_outcome.nd rfl (Or.inl rfl) (pe_meth0X (pl := _) (pv 0) TR.cl M_undo G_undo (hr.mono (by decide)) b_undo (fun σ => passAt tk σ)))))))))
      (fun a oe cls d pn hz hf => (pss_one (ps_set (i := 2) sc_l_outcome.nd rfl (Or.inl rfl) (pv 4)))))
    (pss_one (ps_ret (pe_ifExp (pt_cmpR op_isN (pv 2) pe_non (nomark _)) (pe_tup' (pa_cons pe_str (pa_cons (pv 3) pa_nil))) (pe_tup' (pa_cons (pe_cal c_l_error hr (pa_cons (pv 2) pa_nil)) (pa_cons pe_non pa_nil))))))))), ?_⟩
  obtain ⟨dx, fs, nv, vs, hx, fl, hel, hn, hes⟩ := id st.ex
  cases b with
  | wr d1 d2 =>
    obtain ⟨v1, v2, ht, q1, q2⟩ := hc
    obtain ⟨o1, o2, sh, bad⟩ := gc
    refine ⟨_, rfl, t, _, 0, _, rfl, rfl, .inr ht, rfl, szr, fun u0 H0 n0 s0 h0 => ⟨u0, _, rfl, .inr (SqT.of h0), rfl, by decide, _, rfl, iteT' (by decide +kernel) ?_⟩⟩
    have x0 := s0 _ _ hx
    have t0 := s0 _ _ ht
    refine ⟨_, rfl, t, _, 0, _, rfl, rfl, .inr t0, rfl, rfl, _, rfl, iteT' (by decide +kernel) ?_⟩
    refine ⟨_, rfl, x, dx, fs, rfl, x0, fl.no _ (by unfold RM; simp), _, rfl, t, _, 1, _, rfl, rfl, .inr t0, rfl, _, rfl, t, _, 2, _, rfl, rfl, .inr t0, rfl, L, x, el, v1, v2, sv, es, d1, d2, rfl, lk.same s0, st.same s0, Dx.same s0 q1, Dx.same s0 q2, o1.wd, o2.wd, bad, fun H1 s1 => ?_⟩
    refine ⟨true, by rw [e4]; exact X.ex _ (by decide), fun _ b na => ⟨_, rfl, ?_⟩, fun y => by cases y⟩
    have sb := (s0.trans s1).trans (same_new (o := HeldE (.ref (ec 4)) none b) na)
    have hb : (L2.upd H1 b (HeldE (.ref (ec 4)) none b)) b = some (HeldE (.ref (ec 4)) none b) := upd_same
    rw [e4] at hb sb
    rw [e4]
    exact ⟨_, rfl, rfl, _, rfl, iteF ⟨_, rfl, b, 0, rfl, by decide, hb, fun H2 s2 => ⟨szr, fun p H3 n3 s3 h3 => k' p H3 (sb.trans (s2.trans s3)) h3⟩⟩⟩
  | ari d =>
    obtain ⟨v, ht, q1⟩ := hc
    obtain ⟨o1, bad⟩ := gc
    refine ⟨_, rfl, t, _, 0, _, rfl, rfl, .inr ht, rfl, szr, fun u0 H0 n0 s0 h0 => ⟨u0, _, rfl, .inr (SqT.of h0), rfl, by decide, _, rfl, iteF' (by decide +kernel) ?_⟩⟩
    refine ⟨_, rfl, t, _, 0, _, rfl, rfl, .inr (s0 _ _ ht), rfl, szr, fun u1 H1 n1 s1 h1 => ⟨u1, _, rfl, .inr (SqT.of h1), rfl, by decide, _, rfl, iteT' (by decide +kernel) ?_⟩⟩
    have S0 := s0.trans s1
    have x0 := S0 _ _ hx
    have t0 := S0 _ _ ht
    refine ⟨_, rfl, t, _, 0, _, rfl, rfl, .inr t0, rfl, rfl, _, rfl, iteT' (by decide +kernel) ?_⟩
    refine ⟨_, rfl, x, dx, fs, rfl, x0, fl.no _ (by unfold RM; simp), _, rfl, t, _, 1, _, rfl, rfl, .inr t0, rfl, L, x, el, v, sv, es, d, rfl, lk.same S0, st.same S0, Dx.same S0 q1, bad, fun H1 s1 => ?_⟩
    refine ⟨true, by rw [e0]; exact X.ex _ (by decide), fun _ b na => ⟨_, rfl, ?_⟩, fun y => by cases y⟩
    have sb := (S0.trans s1).trans (same_new (o := HeldE (.ref (ec 0)) none b) na)
    have hb : (L2.upd H1 b (HeldE (.ref (ec 0)) none b)) b = some (HeldE (.ref (ec 0)) none b) := upd_same
    rw [e0] at hb sb
    rw [e0]
    exact ⟨_, rfl, rfl, _, rfl, iteF ⟨_, rfl, b, 2, rfl, by decide, hb, fun H2 s2 => ⟨szr, fun p H3 n3 s3 h3 => k' p H3 (sb.trans (s2.trans s3)) h3⟩⟩⟩
theorem ok_calledB {f S C R : Addr} {fd : FuncData} (F : Fun K "_law_called" "_law_called" s_l_called f fd) (T : Txt mg) (t_repr : mg "repr" = none) (t_dict : mg "dict" = none) (TR : ObjC K mg "Store" R RN) (c_l_outcome : Cal P w K mg base 12 "_law_outcome" ["_law_store", "_law_call_here"] (sp_outcomeB K S C R))
    (c_l_store_due : Cal P w K mg base 3 "_law_store_due" ["_law_page_here", "_law_call_here"] (sp_dueB K)) : FnG P w K mg base 13 f fd ["_law_store", "_law_pages", "_law_call_here"] (sp_calledB K S C R) := by
  refine okG F sc_l_called (fun vs H Q E h => ?_) (fun cdv A outer s H vs Q E hr hg h => ?_)
  · obtain ⟨_, _, _, _, _, _, _, _, rfl, _⟩ := h
    rfl
  obtain ⟨L, x, el, pg, t, sv, es, b, rfl, d, hc, gc, kQ⟩ := h
  refine ⟨_, (pss_cons (ps_if (pt_cmpR op_eq (pe_ix ix_seq' (pv 2) pe_int (fun _ _ => rfl)) pe_str (nomark _))
      (pss_cons (ps_if (pt_cmpR op_eq (pe_callB call_len' (by rfl) T.len (by decide +kernel) (pa_cons (pv 1) pa_nil)) pe_int (nomark _))
      (pss_one (ps_ret (pe_cmpR (op_eqD hr.units) (pe_cal c_l_outcome hr (pa_cons (pv 0) (pa_cons (pv 2) pa_nil))) (pe_tup' (pa_cons pe_str (pa_cons pe_non pa_nil))) (nomark _))))
      pss_nil)
    (pss_cons (ps_expr (pe_bm0 PySem.F.plainAttrs_list PySem.F.slot_list_pop PySem.F.type_list_pop mt_pop (pv 1)))
    (pss_one (ps_ret (pe_cmpR (op_eqD hr.units) (pe_cal c_l_outcome hr (pa_cons (pv 0) (pa_cons (pv 2) pa_nil))) (pe_tup' (pa_cons pe_str (pa_cons pe_non pa_nil))) (nomark _))))))
      pss_nil)
    (pss_cons (ps_par (i := 3) (j := 4) rfl sc_l_called.nd rfl rfl (by decide) rfl rfl (pa_cons (pe_callTy call_dictD (by rfl) t_dict (by decide +kernel) (pa_cons (pe_ix ix_seq' (pv 1) (pe_un un_neg pe_int) (fun _ _ => rfl)) pa_nil)) (pa_cons (pe_callB (call_reprX hg hr.units) (by rfl) t_repr (by decide +kernel) (pa_cons (pv 2) pa_nil)) pa_nil)) (by rfl))
    (pss_cons (ps_set (i := 5) sc_l_called.nd rfl (Or.inl rfl) (pe_cal c_l_store_due hr (pa_cons (pv 3) (pa_cons (pv 2) pa_nil))))
    (pss_cons (ps_cut (ps_if (PW.pt (pw_or (pt_cmpR (op_neD hr.units) (pe_cal c_l_outcome hr (pa_cons (pv 0) (pa_cons (pv 2) pa_nil))) (pe_tup' (pa_cons (pv 5) (pa_cons pe_non pa_nil))) (nomark _)) (pw_or1 (pt_cmpR op_ne (pe_callB (call_reprX hg hr.units) (by rfl) t_repr (by decide +kernel) (pa_cons (pv 2) pa_nil)) (pv 4) (nomark _)))))
      (pss_one (ps_ret pe_bl))
      pss_nil))
    (pss_cons (ps_cut (ps_if (pt_cmpR op_eq (pv 5) pe_str (nomark _))
      (pss_one (ps_expr (pe_bm PySem.F.plainAttrs_list PySem.F.slot_list_append PySem.F.type_list_append mt_append (pv 1) (pa_cons (pv 3) pa_nil))))
      pss_nil))
    (pss_one (ps_ret pe_bl))))))), ?_⟩
  obtain ⟨xs, hpg, hps⟩ := d.pl
  obtain ⟨wv, rest, ht, hw⟩ := bc_hd hc
  refine ⟨_, rfl, t, _, 0, _, rfl, rfl, .inr ht, atI_nat (j := 0) rfl, rfl, _, rfl, iteF' (no_undo wv hw) ?_⟩
  obtain ⟨us, u, rfl, hus, hu⟩ := paired_snoc hps
  have g := d.ok sv (List.mem_append.mpr (.inr (List.mem_singleton.mpr rfl)))
  have bd := bd_bc gc
  obtain ⟨sa, fa, hux⟩ := hu.x
  obtain ⟨pg0, rows, tr, ca, xs0, rfl, h0, vp, vc, htr, hca, hsa, hst, hf, r10⟩ := id hux
  refine ⟨_, rfl, _, rfl, pg, _, -1, _, rfl, rfl, .inl hpg, at_end, pg0, rows, rfl, .inl (hl_in _ _ h0), fun p np => ?_⟩
  have s1 : Same H (upd H p (.dK rows)) := same_new np
  have hp1 : (upd H p (.dK rows)) p = some (.dK rows) := upd_same
  generalize upd H p (.dK rows) = H1 at s1 hp1 ⊢
  have px : PageX H1 (.ref p) sv.pl sv.came sa fa := ⟨p, rows, tr, ca, xs0, rfl, hp1, vp, vc, s1 _ _ (hl_in _ _ htr), s1 _ _ (hl_in _ _ hca), s1 _ _ (hl_in _ _ hsa), steps_same s1 (steps_same hl_in hst), s1 _ _ (hl_in _ _ hf), r10⟩
  refine ⟨_, rfl, .ref t, bcD b, rfl, dx_bc (hc.same s1), bd.sh, Nat.le_trans bd.dp (by decide), Nat.le_trans bd.tx (by decide), ⟨_, _, rfl, ?_⟩⟩
  refine ⟨_, rfl, _, rfl, p, t, sa, fa, sv, b, rfl, px, g, hc.same s1, gc, fun H2 s2 => ?_⟩
  have S2 := s1.trans s2
  obtain ⟨q1, q2, q3⟩ := pair_shB _ (wdB_in b)
  refine ⟨fun σ' H' => σ' = [some (.ref x), some (.ref pg), some (.ref t), some (.ref p), some (.str (bcD b).shown), some (.str (wdB b))] ∧ Same H H', ?_, ?_⟩
  · refine ⟨_, rfl, _, rfl, L, x, el, t, sv, es, b, rfl, d.lk.same S2, d.st.same S2, hc.same S2, gc, fun q H3 s3 h3 => ⟨_, rfl, szr, fun q' H4 n4 s4 h4 => ⟨pairD (wdB b), pairD (wdB b), dp_pair (s4 _ _ h3), dp_pair h4, q1, q1, _, rfl, iteF' (by rw [q2]; rfl) ?_⟩⟩⟩
    have S4 := S2.trans (s3.trans s4)
    exact ⟨_, rfl, .ref t, bcD b, rfl, dx_bc (hc.same S4), bd.sh, Nat.le_trans bd.dp (by decide), Nat.le_trans bd.tx (by decide), _, rfl, rfl, _, rfl, iteF' (by simp) ⟨rfl, S4⟩⟩
  rintro _ H4 ⟨rfl, S4⟩
  refine ⟨fun σ' H' => Same H H', ⟨_, rfl, rfl, _, rfl, iteF' q3 S4⟩, fun _ H5 S5 => kQ H5 S5⟩
end
end Af

set_option Elab.async false
set_option linter.all false
set_option maxRecDepth 100000
set_option maxHeartbeats 8000000
namespace Af
open PySem PySem.Spec L2
abbrev s_l_is_made : Stmt := top 64
abbrev N_l_is_made : List Str := ["_law_base_here", "_law_span", "_law_caught", "_law_found", "e"]
theorem sc_l_is_made : FnScope N_l_is_made ["_law_base_here", "_law_span"] (defScope s_l_is_made) := ⟨rfl, rfl, rfl, by decide +kernel, rfl, by decide +kernel, by decide +kernel⟩

theorem dx_content {K : PySem.W.Frag} {H : Hp} {x : V} {d : PyData} (h : Dx K H x d) : contentB H x = contentD d := by
  unfold contentB contentD
  rw [dx_worths h, dx_len h]
theorem dx_width {K : PySem.W.Frag} {H : Hp} {x : V} {d : PyData} (h : Dx K H x d) : widthB x = widthD d := by
  cases h <;> rfl
def madeQ (d1 d2 : PyData) : Bool := contentD d1 && widthD d2
def sp_initB (K : PySem.W.Frag) (C CE : Addr) : Sp := fun vs H Q E => ∃ (x dx : Addr) (v1 v2 v3 : V) (d1 d2 : PyData), vs = [.ref x, v1, v2, v3] ∧ H x = some (.ins C dx []) ∧ Dx K H v1 d1 ∧ Dx K H v2 d2 ∧ WdD d1 ∧ madeQ d1 d2 = false ∧ ∀ H', Ko x H H' → E (.ref CE) none H'
def sp_rinitB (K : PySem.W.Frag) (R CE : Addr) : Sp := fun vs H Q E => ∃ (x dx : Addr) (v1 v2 : V) (d1 d2 : PyData), vs = [.ref x, v1, v2] ∧ H x = some (.ins R dx []) ∧ Dx K H v1 d1 ∧ Dx K H v2 d2 ∧ WdD d1 ∧ madeQ d1 d2 = false ∧ ∀ H', Same H H' → E (.ref CE) none H'
def sp_is_made (K : PySem.W.Frag) : Sp := fun vs H Q _ => ∃ (v1 v2 : V) (d1 d2 : PyData), vs = [v1, v2] ∧ Dx K H v1 d1 ∧ Dx K H v2 d2 ∧ WdD d1 ∧ ∀ H', Same H H' → Q (.str (if madeQ d1 d2 = true then "" else "plan")) H'
theorem made_good {K : PySem.W.Frag} {H : Hp} {v1 v2 : V} {d1 d2 : PyData} (h1 : Dx K H v1 d1) (h2 : Dx K H v2 d2) (q : madeQ d1 d2 = true) : ∃ ca cs wd, v1 = .ref ca ∧ v2 = .int wd ∧ H ca = some (.tup (ivs cs)) ∧ OkP ⟨cs, wd, []⟩ := by
  unfold madeQ contentD at q
  rw [Bool.and_eq_true, Bool.and_eq_true] at q
  obtain ⟨⟨q1, q2⟩, q3⟩ := q
  obtain ⟨b, e, hb, ne, bd⟩ := dx_let h1 q1
  have l : lenD d1 = (intsD d1).length := by
    cases d1 with
    | tuple ds => show ds.length = (ds.map intD).length; rw [List.length_map]
    | _ => cases q1
  have q2 := of_decide_eq_true q2
  cases h2 with
  | int w0 =>
    have q3 : (decide (1 ≤ w0) && decide (w0 ≤ 24)) = true := q3
    rw [Bool.and_eq_true] at q3
    refine ⟨b, intsD d1, w0, e, rfl, hb, ⟨List.length_pos_iff.mpr ne, by rw [← l]; exact q2, bd, of_decide_eq_true q3.1, of_decide_eq_true q3.2, fun x hx => (by cases hx), (by show 0 ≤ 40; decide), (by show 0 ≤ 40; decide)⟩⟩
  | _ => cases q3
section
variable {P : Program} {w : World} {K : PySem.W.Frag} {mg : Str → Option Value} {base : Heap}
theorem ok_initB {f C CE : Addr} {fd : FuncData} (F : Fun K "__init__" "Plan.__init__" s_Plan___init f fd) (T : Txt mg) (TC : PlanC K mg C) (X : ExcC K mg "InvalidPlan" CE)
    (c_is_content : Cal P w K mg base 4 "is_content" ["thing"] (sp_is_content K)) (c_is_width : Cal P w K mg base 2 "is_width" ["thing"] (sp_is_width K)) (c_are_steps : Cal P w K mg base 5 "are_steps" ["cells", "width", "thing"] (sp_are_steps K sp_roomX))
    (c_epochs_of : Cal P w K mg base 1 "_epochs_of" ["steps"] sp_epochsX) (c_pieces_of : Cal P w K mg base 2 "_pieces_of" ["width", "steps"] sp_piecesX) :
    FnOk P w K mg base (L2.CX P w) 6 f fd ["self", "base", "width", "steps"] (sp_initB K C CE) := by
  refine F.okX sc_Plan___init (fun vs H Q E h => ?_) (fun cdv A outer s H vs Q E hr h => ?_)
  · obtain ⟨_, _, _, _, _, _, _, rfl, _⟩ := h
    rfl
  obtain ⟨x, dx, v1, v2, v3, d1, d2, rfl, hx, h1, h2, w1, bad, kE⟩ := h
  refine ⟨_, (pss_cons (ps_cut (ps_if (PW.pt (pw_or (pt_not (pt_val (pe_cal c_is_content hr (pa_cons (pv 1) pa_nil)))) (pw_or (pt_not (pt_val (pe_cal c_is_width hr (pa_cons (pv 2) pa_nil)))) (pw_or1 (pt_not (pt_val (pe_cal c_are_steps hr (pa_cons (pe_callB call_len' (by rfl) T.len (by decide +kernel) (pa_cons (pv 1) pa_nil)) (pa_cons (pv 2) (pa_cons (pv 3) pa_nil))))))))))
      (pss_one (ps_raise rfl (takes_of rfl rfl rfl rfl) (pmk_own PySem.F.excBase_ValueError X.xP X.gP X.kP (raises_own X.bP X.tP) rfl)))
      pss_nil))
    (pss_cons (ps_set (i := 4) sc_Plan___init.nd rfl (Or.inr rfl) (pe_cal c_epochs_of hr (pa_cons (pv 3) pa_nil)))
    (pss_cons (ps_fld (pv 0) (pv 1) rfl)
    (pss_cons (ps_fld (pv 0) (pv 2) rfl)
    (pss_cons (ps_fld (pv 0) (pe_callTy call_list' (by rfl) T.list (by decide +kernel) (pa_cons (pv 3) pa_nil)) rfl)
    (pss_cons (ps_fld (pv 0) (pe_cal c_pieces_of hr (pa_cons (pv 2) (pa_cons (pv 3) pa_nil))) rfl)
    (pss_cons (ps_fld (pv 0) (pe_lc (own := [("piece", 5)]) (g := (gName 5)) (tt := tYes) rfl sc_Plan___init.nd (pi_list (pe_fld (pv 0) rfl)) (blkOk_by (own := [("piece", 5)]) (N := N_Plan___init) (sc := defScope s_Plan___init) (by decide +kernel)) (fun _ _ _ _ _ => pg_name (i := 5) sc_Plan___init.nd rfl (Or.inl rfl)) (fun _ _ _ _ _ => pts_nil) (fun _ _ _ _ _ => (pe_ix ix_seq' (pv 4) (pe_ix ix_seq' (pv 5) pe_int (fun _ _ => rfl)) (fun _ _ => rfl)))) rfl)
    (pss_one (ps_fld (pv 0) (pe_op op_add (pe_bm PySem.F.plainAttrs_list PySem.F.slot_list_count PySem.F.type_list_count (mt_countX (Nat.lt_of_le_of_lt (Nat.add_le_add_left (show 1 ≤ 64 by decide) _) hr.units)) (pv 3) (pa_cons pe_non pa_nil)) pe_int) rfl))))))))), ?_⟩
  have ko : ∀ {H' : Hp}, Same H H' → Ko x H H' := fun s => Ko.same (fun _ _ _ e => e : Ko x H H) s
  refine ⟨fun _ _ => False, ?_, fun _ _ h => h.elim⟩
  refine ⟨_, rfl, _, rfl, dx_th1 h1 w1, fun H1 s1 => ⟨_, rfl, ?_⟩⟩
  rw [dx_content h1]
  unfold madeQ at bad
  cases e1 : contentD d1 with
  | false => exact kE H1 (ko s1)
  | true =>
    rw [e1, Bool.true_and] at bad
    have h2' := Dx.same s1 h2
    obtain ⟨n2, t2⟩ := dx_ty h2'
    refine iteF ⟨_, rfl, _, n2, rfl, t2, ?_⟩
    rw [dx_width h2', bad]
    exact ⟨_, rfl, kE H1 (ko s1)⟩
theorem ok_rinitB {f S C R CE fI : Addr} {fd fdI : FuncData} (F : Fun K "__init__" "Store.__init__" s_Store___init f fd) (T : Txt mg) (TR : ObjC K mg "Store" R RN) (TC : PlanC K mg C)
    (M_Plan : Mk K C fI) (G_Plan : FnOk P w K mg base (L2.CX P w) 6 fI fdI ["self", "base", "width", "steps"] (sp_initB K C CE)) (b_Plan : Binds K fdI ["self", "base", "width", "steps"] [])
    (c_begun : Cal P w K mg base 6 "begun" ["plan"] (sp_begun S C R)) : FnOk P w K mg base (L2.CX P w) 8 f fd ["self", "base", "width"] (sp_rinitB K R CE) := by
  refine F.okX sc_Store___init (fun vs H Q E h => ?_) (fun cdv A outer s H vs Q E hr h => ?_)
  · obtain ⟨_, _, _, _, _, _, rfl, _⟩ := h
    rfl
  obtain ⟨x, dx, v1, v2, d1, d2, rfl, hx, h1, h2, w1, bad, kE⟩ := h
  refine ⟨_, (pss_cons (ps_fld (pv 0) (pe_cal c_begun hr (pa_cons (pe_make M_Plan G_Plan (hr.mono (by decide)) rfl TC.mgC b_Plan .nil (passes_call (takes_of rfl rfl rfl rfl) (fun _ _ _ _ h => h)) (pa_cons (pv 1) (pa_cons (pv 2) (pa_cons (pe_lst' pa_nil) pa_nil)))) pa_nil)) rfl)
    (pss_one (ps_fld (pv 0) (pe_lst' pa_nil) rfl))), ?_⟩
  refine ⟨_, rfl, _, rfl, szr, fun l1 H1 n1 s1 h1' => fun y dy hy hdy ndy => ?_⟩
  have sm := s0_made (C := C) hy hdy
  exact ⟨y, dy, v1, v2, .ref l1, d1, d2, rfl, upd_same, Dx.same sm (Dx.same s1 h1), Dx.same sm (Dx.same s1 h2), w1, bad, fun H' ko => kE H' (fun b u e => ko b u (ne_of_none (s1 _ _ e) hy) (sm b u (s1 _ _ e)))⟩
def tb_l_is_made (K : PySem.W.Frag) (S C R CE : Addr) (W : WX) : TS := tAsg (tMakeS R (fun vs H Q E => sp_rinit S C R vs H Q E ∨ sp_rinitB K R CE vs H Q E) (WE W) (tCons (tVar 0) (tCons (tVar 1) tNil))) (gName 3)
def ts_l_is_made (_ : Addr) (_ : Value) (_ : Option Addr) : TS := tAsg (tVar 4) (gName 2)
theorem ok_is_made {f S C R CF fI : Addr} {kc : Nat → Addr} {fd fdI : FuncData} (F : Fun K "_law_is_made" "_law_is_made" s_l_is_made f fd) (T : Txt mg) (TR : ObjC K mg "Store" R RN) (X : ErrK K mg CF kc)
    (M_Store : Mk K R fI) (G_Store0 : FnOk P w K mg base CX0 8 fI fdI ["self", "base", "width"] (sp_rinit S C R)) (G_StoreB : FnOk P w K mg base (L2.CX P w) 8 fI fdI ["self", "base", "width"] (sp_rinitB K R (kc 7))) (b_Store : Binds K fdI ["self", "base", "width"] [])
    (c_l_error : Cal P w K mg base 1 "_law_error" ["_law_caught"] (sp_error K kc)) : FnOk P w K mg base CX0 10 f fd ["_law_base_here", "_law_span"] (sp_is_made K) := by
  have g_FallError := X.gF
  have G_Store := Af.FnOk.or (Af.FnOk.up G_Store0) G_StoreB
  obtain ⟨CE, eCE⟩ : ∃ CE : Addr, CE = kc 7 := ⟨_, rfl⟩
  rw [← eCE] at G_Store
  refine F.ok sc_l_is_made (fun vs H Q E h => ?_) (fun cdv A outer s H vs Q E hr h => ?_)
  · obtain ⟨_, _, _, _, rfl, _⟩ := h
    rfl
  obtain ⟨v1, v2, d1, d2, rfl, h1, h2, w1, k⟩ := h
  refine ⟨_, (pss_cons (ps_set (i := 2) sc_l_is_made.nd rfl (Or.inl rfl) pe_non)
    (pss_cons (ps_set (i := 3) sc_l_is_made.nd rfl (Or.inl rfl) pe_non)
    (pss_cons (ps_try_hold (i := 4) (tb := tb_l_is_made K S C R CE) (ts := ts_l_is_made) (Wout := fun _ _ _ _ => False) rfl rfl sc_l_is_made.nd rfl rfl rfl ⟨rfl, by decide, .inl g_FallError⟩ takes0
      (fun W pn xe tk _ => (pss_one (ps_set (i := 3) sc_l_is_made.nd rfl (Or.inl rfl) (pe_makeS M_Store G_Store (hr.mono (by decide)) rfl TR.mgC b_Store (fun σ => passAt tk σ) (pa_cons (pv 0) (pa_cons (pv 1) pa_nil))))))
      (fun a oe cls d pn hz hf => (pss_one (ps_set (i := 2) sc_l_is_made.nd rfl (Or.inl rfl) (pv 4)))))
    (pss_one (ps_ret (pe_ifExp (pt_cmpR op_isN (pv 2) pe_non (nomark _)) pe_str (pe_cal c_l_error hr (pa_cons (pv 2) pa_nil)))))))), ?_⟩
  refine ⟨_, rfl, _, rfl, fun x dx hx hdx ndx => ?_⟩
  have sm := s0_made (C := R) hx hdx
  cases q : madeQ d1 d2 with
  | true =>
    rw [q] at k
    obtain ⟨ca, cs, wd, rfl, rfl, hca, okp⟩ := made_good h1 h2 q
    refine .inl ⟨[], x, dx, ca, cs, wd, rfl, upd_same, (fun _ m => by cases m), (by simp), sm _ _ hca, okp, fun H1 el ko nel lk st => ⟨rfl, ?_⟩⟩
    have S1 : Same H H1 := fun b u e => ko b u (ne_of_none e hx) (sm b u e)
    exact ⟨_, rfl, rfl, _, rfl, iteT (k H1 S1)⟩
  | false =>
    rw [q] at k
    refine .inr ⟨x, dx, v1, v2, d1, d2, rfl, upd_same, Dx.same sm h1, Dx.same sm h2, w1, q, fun H1 s1 => ?_⟩
    refine ⟨true, by rw [eCE]; exact X.ex _ (by decide), fun _ b na => ⟨_, rfl, ?_⟩, fun y => by cases y⟩
    have sb := (sm.trans s1).trans (same_new (o := HeldE (.ref CE) none b) na)
    have hb : (L2.upd H1 b (HeldE (.ref CE) none b)) b = some (HeldE (.ref CE) none b) := upd_same
    rw [eCE] at hb sb
    rw [eCE]
    exact ⟨_, rfl, rfl, _, rfl, iteF ⟨_, rfl, b, 7, rfl, by decide, hb, fun H2 s2 => k H2 (sb.trans s2)⟩⟩
end
end Af

set_option Elab.async false
set_option linter.all false
set_option maxRecDepth 100000
set_option maxHeartbeats 1000000
namespace Af
open PySem PySem.Spec PyProof.Rows L2
/-! t[::-1], t a tuple -/
theorem pick_rev (l : List Value) : ((List.range l.length).filterMap fun (k : Nat) => l.toArray[(((l.length : Int) - 1) + (k : Int) * (-1)).toNat]?) = l.reverse := by
  have e : ((List.range l.length).filterMap fun (k : Nat) => l.toArray[(((l.length : Int) - 1) + (k : Int) * (-1)).toNat]?) = (List.range l.length).map fun k => l.getD (l.length - 1 - k) .none := by
    have : ∀ m, m ≤ l.length → ((List.range m).filterMap fun (k : Nat) => l.toArray[(((l.length : Int) - 1) + (k : Int) * (-1)).toNat]?) = (List.range m).map fun k => l.getD (l.length - 1 - k) .none := fun m => by
      induction m with
      | zero => intro _; rfl
      | succ m ih =>
        intro h
        rw [List.range_succ, List.filterMap_append, List.map_append, ih (by omega)]
        congr 1
        have i1 : (((l.length : Int) - 1) + (m : Int) * (-1)).toNat = l.length - 1 - m := by omega
        have i2 : l.length - 1 - m < l.length := by omega
        rw [List.filterMap_cons, i1]
        simp only [List.getElem?_toArray, List.getElem?_eq_getElem i2, List.filterMap_nil, List.map_cons, List.map_nil, List.getD_eq_getElem?_getD, Option.getD_some]
    exact this _ (Nat.le_refl _)
  rw [e]
  refine List.ext_getElem (by rw [List.length_map, List.length_range, List.length_reverse]) fun i h1 h2 => ?_
  rw [List.length_map, List.length_range] at h1
  rw [List.getElem_map, List.getElem_range, List.getElem_reverse, List.getD_eq_getElem?_getD, List.getElem?_eq_getElem (show l.length - 1 - i < l.length by omega)]
  rfl
section
variable {prog : Program} {w : World} {A : Around} {E : Value → Shared → Prop} {s : Shared}
theorem sliceApplied_rev {sl : Addr} {n : Nat} {vl vu vs : Value} {Q : Int × Int × Nat → Shared → Prop} (h1 : 1 ≤ n) (hs : s.heap.IsSliceOf sl vl vu vs) (pl : IsPart vl none) (pu : IsPart vu none) (ps : IsPart vs (some (-1)))
    (h : Q ((n : Int) - 1, -1, n) s) : wpAny (model prog w) A (Builtin.Slice.sliceApplied (.ref sl) (pure (n : Int))) Q E s := by
  obtain ⟨os, hos, hcs, hds⟩ := id hs
  unfold Builtin.Slice.sliceApplied Builtin.Slice.sliceFields
  refine wpAny_bind (wpAny_bind (wpAny_field hos hds (x := vl) rfl (wpAny_bind (wpAny_field hos hds (x := vu) rfl (wpAny_bind (wpAny_field hos hds (x := vs) rfl (wpAny_pure ?_)))))))
  refine wpAny_bind (HT.slicePart_ ps ?_)
  show wpAny _ _ (if ((-1 : Int) == 0) = true then _ else _) _ _ s
  rw [if_neg (by decide)]
  refine wpAny_bind (HT.slicePart_ pl (wpAny_bind (HT.slicePart_ pu (wpAny_bind (wpAny_pure ?_)))))
  show wpAny _ _ (match Builtin.Slice.sliceAdjust none none (-1) (n : Int) with | (lo, hi) => pure (lo, (-1 : Int), Builtin.Slice.slicePlaces lo hi (-1))) _ _ s
  rw [show Builtin.Slice.sliceAdjust none none (-1) (n : Int) = ((n : Int) - 1, -1) from rfl]
  show wpAny _ _ (pure (((n : Int) - 1), (-1 : Int), Builtin.Slice.slicePlaces ((n : Int) - 1) (-1) (-1))) _ _ s
  rw [show Builtin.Slice.slicePlaces ((n : Int) - 1) (-1) (-1) = n by
    unfold Builtin.Slice.slicePlaces
    rw [if_neg (by decide), if_pos (by omega)]
    show ((((n : Int) - 1 - -1 - 1) / 1) + 1).toNat = n
    rw [Int.ediv_one]
    omega]
  exact wpAny_pure h
theorem getItem_rev {t sl : Addr} {l : List Value} {vl vu vs : Value} {Q : Value → Shared → Prop} (l1 : 1 ≤ l.length) (lz : l.length ≤ sizeLine) (ht : IsTup s.heap t l.toArray) (hs : s.heap.IsSliceOf sl vl vu vs) (pl : IsPart vl none) (pu : IsPart vu none) (ps : IsPart vs (some (-1)))
    (h : Q (.ref s.heap.objs.size) { s with heap := s.heap.push { cls := .type "tuple", data := .seq l.reverse.toArray } }) : wpAny (model prog w) A (getItem (.ref t) (.ref sl)) Q E s := by
  have htake : sizeOk (.seq l.reverse.toArray) := by
    show l.reverse.toArray.size ≤ sizeLine
    rw [List.size_toArray, List.length_reverse]
    exact lz
  obtain ⟨os, hos, hcs, hds⟩ := id hs
  have hTs : s.TypeIs (.ref sl) "slice" := ⟨os, hos, hcs⟩
  unfold getItem
  try with_reducible refine wpAny_holding ?_
  first | refine wpAny_bind (wpAny_pure ?_) | skip
  refine wpAny_bind (wpAny_sequenceKey ht.typeIs (by decide) ?_)
  refine wpAny_bind (wpAny_callSpecial?_slot (name := Str.ofString "__getitem__") ht.typeIs PyProof.Rows.slot_tuple_getitem
    (wpAny_call_entry PyProof.Rows.slot_tuple_getitem ht.typeIs entry_tuple_getitem ?_ (args_tuple_getitem _ _)))
  show wpAny _ _ (Builtin.Tuple.tupleItemsOf (.ref t) >>= _) _ _ s
  refine wpAny_bind (tupleItemsOf_ ht ?_)
  refine wpAny_bind (wpAny_typeOf hTs ?_)
  rw [if_pos (by decide)]
  refine wpAny_bind (sliceApplied_rev (n := l.length) l1 hs pl pu ps ?_)
  show wpAny _ _ (if (((l.length : Int) - 1) == 0 && (-1 : Int) == 1 && l.length == l.toArray.size) = true then _ else _) _ _ s
  rw [if_neg (by simp)]
  dsimp only
  rw [pick_rev l]
  first
    | exact wpAny_bind (m := Builtin.Tuple.tupleExact _) (wpAny_newObj_type (wpAny_pure ⟨_, rfl, wpAny_pure h⟩) htake)
    | exact wpAny_bind (m := Builtin.Tuple.tupleExact _) (wpAny_newObj_type (wpAny_bind (wpAny_pure (wpAny_pure ⟨_, rfl, wpAny_pure h⟩))) htake)
    | exact wpAny_bind (wpAny_bind (m := Builtin.Tuple.tupleExact _) (wpAny_newObj_type (wpAny_pure (wpAny_pure ⟨_, rfl, wpAny_pure h⟩)) htake))
    | exact wpAny_bind (wpAny_bind (m := Builtin.Tuple.tupleExact _) (wpAny_newObj_type (wpAny_pure ⟨_, rfl, wpAny_pure h⟩) htake))
end
section
variable {X : Cx}
def tRevT (te : TE) : TE := fun σ H Q => te σ H fun x H1 => ∃ a xs, x = .ref a ∧ H1 a = some (.tup xs) ∧ 1 ≤ xs.length ∧ New (.tup xs.reverse) H1 Q
theorem pe_revT {e : Expr} {te : TE} {k : Nat} {p1 p2 p3 pos : Pos} (he : PE X e te) : PE X (.Subscript e (.Slice none none (some (.UnaryOp .USub (.Constant (.int 1) k p1) p2)) p3) pos) (tRevT te) := by
  refine ⟨fun pins s σ H Q I h => ?_⟩
  refine Subscript_ (thn (he.run pins s σ H _ I h) fun v s1 ⟨x, H1, I1, r1, q1⟩ => ?_)
  obtain ⟨a, xs, ex, hx0, xl, q⟩ := q1
  have hx : SqT X.K H1 a xs := SqT.of hx0
  subst ex
  cases r1
  have hst : PO X (some (.UnaryOp .USub (.Constant (.int 1) k p1) p2)) (tPart (tUn (rU fun i => .int (-i)) (tC (.int 1)))) := po_some (pe_un un_neg pe_int)
  refine wpAny_Slice (thn (po_none.run pins s1 σ H1 (fun o H2 => o = none ∧ H2 = H1) I1 ⟨rfl, rfl⟩) fun vl s2 ⟨l, H2, I2, pl, el, e2⟩ => ?_)
  subst el e2
  refine thn (po_none.run pins s2 σ H2 (fun o H3 => o = none ∧ H3 = H2) I2 ⟨rfl, rfl⟩) fun vu s3 ⟨u, H3, I3, pu, eu, e3⟩ => ?_
  subst eu e3
  refine thn (hst.run pins s3 σ H3 (fun o H4 => o = some (-1) ∧ H4 = H3) I3 ⟨1, rfl, -1, rfl, rfl, rfl⟩) fun vs s4 ⟨o, H4, I4, ps, eo, e4⟩ => ?_
  subst eo e4
  have I5 : Inv X pins σ H4 { s4 with heap := s4.heap.push { cls := .type "slice", data := .fields #[vl, vu, vs] } } := I4.kept (t' := s4.toks) fun b ob q => Heap.get?_push_of_some _ q
  obtain ⟨its, r, ht, hz⟩ := I5.tuple hx
  have hlen := r.length
  show wpAny (model X.prog X.w) X.A (subscriptTail e (.Slice none none (some (.UnaryOp .USub (.Constant (.int 1) k p1) p2)) p3) (.ref a) (.ref s4.heap.objs.size)) (EP X pins σ Q) X.xe { s4 with heap := s4.heap.push { cls := .type "slice", data := .fields #[vl, vu, vs] } }
  refine tail_any (ops := [.ref a, .ref s4.heap.objs.size]) ht.typeIs (PyProof.Rows.slot_tuple_getitem.lookup) ?_ (by with_unfolding_all rfl)
  refine getItem_rev (l := its) (by omega) (by omega) ht (Heap.IsSliceOf.new _ vl vu vs) pl pu ps ?_
  refine ⟨.ref _, _, I5.laid (t' := s4.toks) (o := .tup xs.reverse) (fun b ob q => Heap.get?_push_of_some _ q) (Nat.le_refl _) ?_, rfl, q.mk _ (I5.hok.fresh (Nat.le_refl _))⟩
  exact ⟨by rw [List.length_reverse]; exact hz, its.reverse, r.reverse, IsTup.new _ _⟩
end
end Af

set_option Elab.async false
set_option linter.all false
set_option maxRecDepth 100000
set_option maxHeartbeats 4000000
namespace Af
open PySem PySem.Spec PyProof.Rows L2
/-! what expressions make, told as data: nothing that stood is changed, what is made is told without the list at p -/
/-- a heap without the list at p and what S names -/
def gh (S : List Addr) (p : Addr) (H : Hp) : Hp := fun a => if a ∈ S then none else hd p H a
theorem gh_at {S : List Addr} {p a : Addr} {H : Hp} {o : HO} (n : a ≠ p) (m : a ∉ S) (h : H a = some o) : gh S p H a = some o := by
  unfold gh
  rw [if_neg m, hd_ne n]
  exact h
theorem gh_hd {S : List Addr} {p : Addr} {H : Hp} : Same (gh S p H) (hd p H) := fun a o e => by
  unfold gh at e
  by_cases m : a ∈ S
  · rw [if_pos m] at e
    cases e
  · rw [if_neg m] at e
    exact e
theorem gh_in {S : List Addr} {p : Addr} {H : Hp} : Same (gh S p H) H := fun a o e => hd_in a o (gh_hd a o e)
theorem gh_same {S : List Addr} {p : Addr} {H H' : Hp} (s : Same H H') : Same (gh S p H) (gh S p H') := fun a o e => by
  unfold gh at e ⊢
  by_cases m : a ∈ S
  · rw [if_pos m] at e
    cases e
  · rw [if_neg m] at e ⊢
    exact hd_same s a o e
/-- named, and not what stood at first -/
def Hid (S : List Addr) (H0 H : Hp) : Prop := ∀ a ∈ S, H0 a = none ∧ ∃ o, H a = some o ∧ ∀ xs, o ≠ .tup xs
theorem Hid.same {S : List Addr} {H0 H H' : Hp} (h : Hid S H0 H) (s : Same H H') : Hid S H0 H' := fun a m => by
  obtain ⟨h1, r, h2, h3⟩ := h a m
  exact ⟨h1, r, s _ _ h2, h3⟩
theorem Hid.new {S : List Addr} {H0 H : Hp} {a : Addr} (h : Hid S H0 H) (n : H a = none) : a ∉ S := fun m => by
  obtain ⟨_, r, h2, _⟩ := h a m
  rw [n] at h2
  cases h2
theorem gh_atT {S : List Addr} {p a : Addr} {H0 H : Hp} {xs : List V} (P : ∃ l, H p = some (.lst l)) (I : Hid S H0 H) (h : H a = some (.tup xs)) : gh S p H a = some (.tup xs) := by
  refine gh_at (fun e => ?_) (fun m => ?_) h
  · obtain ⟨l, hl⟩ := P
    rw [e, hl] at h
    cases h
  · obtain ⟨_, r, h2, h3⟩ := I a m
    rw [h] at h2
    exact h3 _ (Option.some.inj h2).symm
theorem gh_hd2 {l p : Addr} {H : Hp} : gh [l] p H = hd2 p l H := by
  funext a
  unfold gh hd2
  by_cases h : a = l <;> by_cases h2 : a = p <;> simp [hd, h, h2]
/-- a list that is appended to is hidden too -/
theorem hid_lst {l : Addr} {H : Hp} {xs : List V} (h : H l = some (.lst xs)) : Hid [l] (hd l H) H := fun a m => by
  rw [List.mem_singleton.mp m]
  exact ⟨if_pos rfl, _, h, fun _ e => by cases e⟩
def Ev (K : PySem.W.Frag) (p : Addr) (H0 : Hp) (σ : L2.St) (te : TE) (d : PyData) : Prop := ∀ (S : List Addr) (H : Hp) (Q : VK), Hid S H0 H → Same H0 H → (∀ v H', Same H H' → Dx K (gh S p H') v d → Q v H') → te σ H Q
def Evs (K : PySem.W.Frag) (p : Addr) (H0 : Hp) (σ : L2.St) (t : TA) (ds : List PyData) : Prop := ∀ (S : List Addr) (H : Hp) (Q : List V → Hp → Prop), Hid S H0 H → Same H0 H → (∀ vs H', Same H H' → DxAll K (gh S p H') vs ds → Q vs H') → t σ H Q
def IsL (p : Addr) (H0 : Hp) : Prop := ∃ l, H0 p = some (.lst l)
theorem IsL.same {p : Addr} {H H' : Hp} (h : IsL p H) (s : Same H H') : IsL p H' := by
  obtain ⟨l, h⟩ := h
  exact ⟨l, s _ _ h⟩
theorem IsL.ne {p a : Addr} {H : Hp} (h : IsL p H) (n : H a = none) : a ≠ p := fun e => by
  obtain ⟨l, h⟩ := h
  rw [e, h] at n
  cases n
theorem IsL.nt {p a : Addr} {H : Hp} {xs : List V} (h : IsL p H) (n : H a = some (.tup xs)) : a ≠ p := fun e => by
  obtain ⟨l, h⟩ := h
  rw [e, h] at n
  cases n
def cutD (ds : List PyData) (lo hi : Option Int) : List PyData := (ds.drop (HT.sIx ds.length 0 lo)).take (HT.sIx ds.length ds.length hi - HT.sIx ds.length 0 lo)
/-- a bound of a slice -/
def Evo (H0 : Hp) (σ : L2.St) (t : TO) (o : Option Int) : Prop := ∀ (S : List Addr) (H : Hp) (Q : Option Int → Hp → Prop), Hid S H0 H → Same H0 H → (∀ H', Same H H' → Q o H') → t σ H Q
section
variable {K : PySem.W.Frag} {p : Addr} {H0 : Hp} {σ : L2.St}
theorem DxAll.take {H : Hp} : ∀ {xs : List V} {ds : List PyData} (n : Nat), DxAll K H xs ds → DxAll K H (xs.take n) (ds.take n)
  | _, _, 0, _ => by rw [List.take_zero, List.take_zero]; exact .nil
  | _, _, n + 1, .nil => .nil
  | _, _, n + 1, .cons r t => .cons r (t.take n)
theorem DxAll.drop {H : Hp} : ∀ {xs : List V} {ds : List PyData} (n : Nat), DxAll K H xs ds → DxAll K H (xs.drop n) (ds.drop n)
  | _, _, 0, h => h
  | _, _, n + 1, .nil => .nil
  | _, _, n + 1, .cons r t => t.drop n
theorem DxAll.rev {H : Hp} : ∀ {xs : List V} {ds : List PyData}, DxAll K H xs ds → DxAll K H xs.reverse ds.reverse
  | _, _, .nil => .nil
  | _, _, .cons r t => by rw [List.reverse_cons, List.reverse_cons]; exact t.rev.app (.cons r .nil)
theorem DxAll.cut {H : Hp} {xs : List V} {ds : List PyData} (h : DxAll K H xs ds) (lo hi : Option Int) : DxAll K H (cutV xs lo hi) (cutD ds lo hi) := by
  unfold cutV cutD
  rw [h.len]
  exact (h.drop _).take _
theorem Ev.run {te : TE} {d : PyData} {H : Hp} {Q : VK} (e : Ev K p H0 σ te d) (s : Same H0 H) (k : ∀ v H', Same H H' → Dx K (hd p H') v d → Q v H') : te σ H Q := e [] H Q (fun a m => by cases m) s fun v H' s' q => k v H' s' (Dx.same gh_hd q)
theorem Ev.go {S : List Addr} {te : TE} {d : PyData} {H : Hp} {Q : VK} (e : Ev K p H0 σ te d) (i : Hid S H0 H) (s : Same H0 H) (k : ∀ v H', Same H H' → Dx K (gh S p H') v d → Q v H') : te σ H Q := e S H Q i s k
theorem Evs.run {t : TA} {ds : List PyData} {H : Hp} {Q : List V → Hp → Prop} (e : Evs K p H0 σ t ds) (s : Same H0 H) (k : ∀ vs H', Same H H' → DxAll K (hd p H') vs ds → Q vs H') : t σ H Q := e [] H Q (fun a m => by cases m) s fun v H' s' q => k v H' s' (DxAll.same gh_hd q)
theorem Evs.go {S : List Addr} {t : TA} {ds : List PyData} {H : Hp} {Q : List V → Hp → Prop} (e : Evs K p H0 σ t ds) (i : Hid S H0 H) (s : Same H0 H) (k : ∀ vs H', Same H H' → DxAll K (gh S p H') vs ds → Q vs H') : t σ H Q := e S H Q i s k
theorem ev_var {i : Nat} {v : V} {d : PyData} (hi : σ[i]? = some (some v)) (h : Dx K (hd p H0) v d) : Ev K p H0 σ (tVar i) d := fun S H Q I s k => ⟨v, hi, k v H (Same.refl _) (Dx.same (fun a o e => by
  have e0 := hd_in _ _ e
  have np : a ≠ p := fun z => by rw [z, show hd p H0 p = none from if_pos rfl] at e; cases e
  exact gh_at np (fun m => by rw [(I a m).1] at e0; cases e0) (s _ _ e0)) h)⟩
theorem ev_int {z : Int} : Ev K p H0 σ (tC (.int z)) (.int z) := fun S H Q I s k => k _ H (Same.refl _) (.int z)
theorem ev_str {z : Str} : Ev K p H0 σ (tC (.str z)) (.str z) := fun S H Q I s k => k _ H (Same.refl _) (.str z)
theorem ev_bl {z : Bool} : Ev K p H0 σ (tC (.bl z)) (.bool z) := fun S H Q I s k => k _ H (Same.refl _) (.bl z)
theorem ev_non : Ev K p H0 σ (tC .non) .none := fun S H Q I s k => k _ H (Same.refl _) .non
theorem evs_nil : Evs K p H0 σ tNil [] := fun S H Q I s k => k _ H (Same.refl _) .nil
theorem evs_cons {te : TE} {t : TA} {d : PyData} {ds : List PyData} (h : Ev K p H0 σ te d) (hs : Evs K p H0 σ t ds) : Evs K p H0 σ (tCons te t) (d :: ds) := fun S H Q I s k =>
  h.go I s fun v H1 s1 q1 => hs.go (I.same s1) (s.trans s1) fun vs H2 s2 q2 => k _ H2 (s1.trans s2) (.cons (Dx.same (gh_same s2) q1) q2)
theorem ev_tup {t : TA} {ds : List PyData} (P : IsL p H0) (h : Evs K p H0 σ t ds) (l : ds.length ≤ 100000) : Ev K p H0 σ (tTup' t) (.tuple ds) := fun S H Q I s k =>
  h.go I s fun vs H1 s1 q1 => ⟨sz (by rw [q1.len]; exact l), fun a H2 n s2 h2 => k _ H2 (s1.trans s2) (.tup (gh_at ((P.same (s.trans s1)).ne n) (((I.same s1)).new n) h2) (DxAll.same (gh_same s2) q1))⟩
theorem ev_lst {t : TA} {ds : List PyData} (P : IsL p H0) (h : Evs K p H0 σ t ds) (l : ds.length ≤ 100000) : Ev K p H0 σ (tLst' t) (.list ds) := fun S H Q I s k =>
  h.go I s fun vs H1 s1 q1 => ⟨sz (by rw [q1.len]; exact l), fun a H2 n s2 h2 => k _ H2 (s1.trans s2) (.lst (gh_at ((P.same (s.trans s1)).ne n) (((I.same s1)).new n) h2) (DxAll.same (gh_same s2) q1))⟩
theorem dx_lst {S : List Addr} {G : Hp} {v : V} {ds : List PyData} (h : Dx K (gh S p G) v (.list ds)) : ∃ a xs, v = .ref a ∧ G a = some (.lst xs) ∧ DxAll K (gh S p G) xs ds ∧ gh S p G a = some (.lst xs) := by
  cases h with
  | lst e t => exact ⟨_, _, rfl, gh_in _ _ e, t, e⟩
theorem dx_tupG {S : List Addr} {G : Hp} {v : V} {ds : List PyData} (h : Dx K (gh S p G) v (.tuple ds)) : ∃ a xs, v = .ref a ∧ G a = some (.tup xs) ∧ DxAll K (gh S p G) xs ds ∧ gh S p G a = some (.tup xs) := by
  cases h with
  | tup e t => exact ⟨_, _, rfl, gh_in _ _ e, t, e⟩
theorem ev_cat {ta tb : TE} {xs ys : List PyData} (P : IsL p H0) (ha : Ev K p H0 σ ta (.list xs)) (hb : Ev K p H0 σ tb (.list ys)) (l : xs.length + ys.length ≤ 100000) : Ev K p H0 σ (tOp rCat' ta tb) (.list (xs ++ ys)) := fun S H Q I s k =>
  ha.go I s fun v H1 s1 q1 => hb.go (I.same s1) (s.trans s1) fun u H2 s2 q2 => by
    obtain ⟨a, vs, rfl, h1, t1, g1⟩ := dx_lst q1
    obtain ⟨b, us, rfl, h2, t2, g2⟩ := dx_lst q2
    refine ⟨a, b, vs, us, rfl, rfl, s2 _ _ h1, h2, sz (by rw [t1.len, t2.len]; exact l), fun c H3 n s3 h3 => ?_⟩
    exact k _ H3 (s1.trans (s2.trans s3)) (.lst (gh_at ((P.same (s.trans (s1.trans s2))).ne n) (((I.same (s1.trans s2))).new n) h3) ((DxAll.same (gh_same (s2.trans s3)) t1).app (DxAll.same (gh_same s3) t2)))
theorem ev_catT {ta tb : TE} {xs ys : List PyData} (P : IsL p H0) (ha : Ev K p H0 σ ta (.tuple xs)) (hb : Ev K p H0 σ tb (.tuple ys)) (l : xs.length + ys.length ≤ 100000) : Ev K p H0 σ (tOp rCatT' ta tb) (.tuple (xs ++ ys)) := fun S H Q I s k =>
  ha.go I s fun v H1 s1 q1 => hb.go (I.same s1) (s.trans s1) fun u H2 s2 q2 => by
    obtain ⟨a, vs, rfl, h1, t1, g1⟩ := dx_tupG q1
    obtain ⟨b, us, rfl, h2, t2, g2⟩ := dx_tupG q2
    refine ⟨a, b, vs, us, rfl, rfl, s2 _ _ h1, h2, sz (by rw [t1.len, t2.len]; exact l), fun c H3 s3 h3 => ?_⟩
    exact k _ H3 (s1.trans (s2.trans s3)) (.tup (gh_atT (P.same (s.trans (s1.trans (s2.trans s3)))) (I.same (s1.trans (s2.trans s3))) h3) ((DxAll.same (gh_same (s2.trans s3)) t1).app (DxAll.same (gh_same s3) t2)))
theorem ev_rep {ta tb : TE} {xs : List PyData} {n : Int} (P : IsL p H0) (ha : Ev K p H0 σ ta (.list xs)) (hb : Ev K p H0 σ tb (.int n)) (n0 : 0 ≤ n) (n1 : n ≤ 1000) (l : xs.length * n.toNat ≤ 100000) : Ev K p H0 σ (tOp rRep' ta tb) (.list (List.replicate n.toNat xs).flatten) := fun S H Q I s k =>
  ha.go I s fun v H1 s1 q1 => hb.go (I.same s1) (s.trans s1) fun u H2 s2 q2 => by
    obtain ⟨a, vs, rfl, h1, t1, g1⟩ := dx_lst q1
    cases q2
    refine ⟨a, n, vs, rfl, rfl, s2 _ _ h1, n0, n1, sz (by rw [t1.len]; exact l), fun c H3 m s3 h3 => ?_⟩
    refine k _ H3 (s1.trans (s2.trans s3)) (.lst (gh_at ((P.same (s.trans (s1.trans s2))).ne m) (((I.same (s1.trans s2))).new m) h3) ?_)
    have t := DxAll.same (gh_same (s2.trans s3)) t1
    clear h3
    generalize n.toNat = m
    induction m with
    | zero => exact .nil
    | succ m ih => exact t.app ih
theorem ev_repT {ta tb : TE} {xs : List PyData} {n : Int} (P : IsL p H0) (ha : Ev K p H0 σ ta (.tuple xs)) (hb : Ev K p H0 σ tb (.int n)) (ne : xs ≠ []) (n0 : 0 ≤ n) (n1 : n ≤ 1000) (l : xs.length ≤ 1000) : Ev K p H0 σ (tOp rRepT' ta tb) (.tuple (List.replicate n.toNat xs).flatten) := fun S H Q I s k =>
  ha.go I s fun v H1 s1 q1 => hb.go (I.same s1) (s.trans s1) fun u H2 s2 q2 => by
    obtain ⟨a, vs, rfl, h1, t1, g1⟩ := dx_tupG q1
    cases q2
    have vn : vs ≠ [] := fun z => by
      have := t1.len
      rw [z] at this
      exact ne (List.eq_nil_of_length_eq_zero this.symm)
    refine ⟨a, n, vs, rfl, rfl, s2 _ _ h1, vn, n0, n1, by rw [t1.len]; exact l, fun c H3 s3 h3 => ?_⟩
    refine k _ H3 (s1.trans (s2.trans s3)) (.tup (gh_atT (P.same (s.trans (s1.trans (s2.trans s3)))) (I.same (s1.trans (s2.trans s3))) h3) ?_)
    have t := DxAll.same (gh_same (s2.trans s3)) t1
    clear h3
    generalize n.toNat = m
    induction m with
    | zero => exact .nil
    | succ m ih => exact t.app ih
theorem evo_none : Evo H0 σ tNoPart none := fun S H Q I s k => k H (Same.refl _)
theorem evo_some {te : TE} {i : Int} (h : Ev K p H0 σ te (.int i)) : Evo H0 σ (tPart te) (some i) := fun S H Q I s k =>
  h.go I s fun v H1 s1 q1 => by
    cases q1
    exact ⟨i, rfl, k H1 s1⟩
theorem ev_slL {te : TE} {tl th : TO} {xs : List PyData} {lo hi : Option Int} (P : IsL p H0) (h : Ev K p H0 σ te (.list xs)) (hl : Evo H0 σ tl lo) (hh : Evo H0 σ th hi) : Ev K p H0 σ (tSl rSlL' te tl th) (.list (cutD xs lo hi)) := fun S H Q I s k =>
  h.go I s fun v H1 s1 q1 => hl S H1 _ (I.same s1) (s.trans s1) fun H2 s2 => hh S H2 _ (I.same (s1.trans s2)) (s.trans (s1.trans s2)) fun H3 s3 => by
    obtain ⟨a, vs, rfl, h1, t1, g1⟩ := dx_lst q1
    refine ⟨a, vs, rfl, s3 _ _ (s2 _ _ h1), fun c H4 n s4 h4 => ?_⟩
    exact k _ H4 (s1.trans (s2.trans (s3.trans s4))) (.lst (gh_at ((P.same (s.trans (s1.trans (s2.trans s3)))).ne n) (((I.same (s1.trans (s2.trans s3)))).new n) h4) (DxAll.same (gh_same (s2.trans (s3.trans s4))) (t1.cut lo hi)))
theorem ev_slT {te : TE} {tl th : TO} {xs : List PyData} {lo hi : Option Int} (P : IsL p H0) (h : Ev K p H0 σ te (.tuple xs)) (hl : Evo H0 σ tl lo) (hh : Evo H0 σ th hi) : Ev K p H0 σ (tSl rSlT' te tl th) (.tuple (cutD xs lo hi)) := fun S H Q I s k =>
  h.go I s fun v H1 s1 q1 => hl S H1 _ (I.same s1) (s.trans s1) fun H2 s2 => hh S H2 _ (I.same (s1.trans s2)) (s.trans (s1.trans s2)) fun H3 s3 => by
    obtain ⟨a, vs, rfl, h1, t1, g1⟩ := dx_tupG q1
    refine ⟨a, vs, rfl, s3 _ _ (s2 _ _ h1), fun c H4 s4 h4 => ?_⟩
    exact k _ H4 (s1.trans (s2.trans (s3.trans s4))) (.tup (gh_atT (P.same (s.trans (s1.trans (s2.trans (s3.trans s4))))) (I.same (s1.trans (s2.trans (s3.trans s4)))) h4) (DxAll.same (gh_same (s2.trans (s3.trans s4))) (t1.cut lo hi)))
theorem ev_rev {te : TE} {xs : List PyData} (P : IsL p H0) (h : Ev K p H0 σ te (.list xs)) : Ev K p H0 σ (tRev' te) (.list xs.reverse) := fun S H Q I s k =>
  h.go I s fun v H1 s1 q1 => by
    obtain ⟨a, vs, rfl, h1, t1, g1⟩ := dx_lst q1
    exact ⟨a, vs, rfl, h1, fun c H2 n s2 h2 => k _ H2 (s1.trans s2) (.lst (gh_at ((P.same (s.trans s1)).ne n) (((I.same s1)).new n) h2) (DxAll.same (gh_same s2) t1.rev))⟩
theorem ev_revT {te : TE} {xs : List PyData} (P : IsL p H0) (h : Ev K p H0 σ te (.tuple xs)) (l : 1 ≤ xs.length) : Ev K p H0 σ (tRevT te) (.tuple xs.reverse) := fun S H Q I s k =>
  h.go I s fun v H1 s1 q1 => by
    obtain ⟨a, vs, rfl, h1, t1, g1⟩ := dx_tupG q1
    exact ⟨a, vs, rfl, h1, by rw [t1.len]; exact l, fun c H2 n s2 h2 => k _ H2 (s1.trans s2) (.tup (gh_at ((P.same (s.trans s1)).ne n) (((I.same s1)).new n) h2) (DxAll.same (gh_same s2) t1.rev))⟩
theorem ev_tupL {te : TE} {xs : List PyData} (P : IsL p H0) (h : Ev K p H0 σ te (.list xs)) : Ev K p H0 σ (tCB rTuple' (tCons te tNil)) (.tuple xs) := fun S H Q I s k =>
  h.go I s fun v H1 s1 q1 => by
    obtain ⟨a, vs, rfl, h1, t1, g1⟩ := dx_lst q1
    exact ⟨a, vs, rfl, .inl h1, fun c H2 s2 h2 => k _ H2 (s1.trans s2) (.tup (gh_atT (P.same (s.trans (s1.trans s2))) (I.same (s1.trans s2)) h2) (DxAll.same (gh_same s2) t1))⟩
theorem ev_tupT {te : TE} {xs : List PyData} (P : IsL p H0) (h : Ev K p H0 σ te (.tuple xs)) : Ev K p H0 σ (tCB rTuple' (tCons te tNil)) (.tuple xs) := fun S H Q I s k =>
  h.go I s fun v H1 s1 q1 => by
    obtain ⟨a, vs, rfl, h1, t1, g1⟩ := dx_tupG q1
    exact ⟨a, vs, rfl, .inr h1, fun c H2 s2 h2 => k _ H2 (s1.trans s2) (.tup (gh_atT (P.same (s.trans (s1.trans s2))) (I.same (s1.trans s2)) h2) (DxAll.same (gh_same s2) t1))⟩
theorem ev_lstL {te : TE} {xs : List PyData} (P : IsL p H0) (h : Ev K p H0 σ te (.list xs)) : Ev K p H0 σ (tCB rList' (tCons te tNil)) (.list xs) := fun S H Q I s k =>
  h.go I s fun v H1 s1 q1 => by
    obtain ⟨a, vs, rfl, h1, t1, g1⟩ := dx_lst q1
    exact ⟨a, vs, rfl, .inl h1, fun c H2 n s2 h2 => k _ H2 (s1.trans s2) (.lst (gh_at ((P.same (s.trans s1)).ne n) (((I.same s1)).new n) h2) (DxAll.same (gh_same s2) t1))⟩
theorem ev_lstT {te : TE} {xs : List PyData} (P : IsL p H0) (h : Ev K p H0 σ te (.tuple xs)) : Ev K p H0 σ (tCB rList' (tCons te tNil)) (.list xs) := fun S H Q I s k =>
  h.go I s fun v H1 s1 q1 => by
    obtain ⟨a, vs, rfl, h1, t1, g1⟩ := dx_tupG q1
    exact ⟨a, vs, rfl, .inr h1, fun c H2 n s2 h2 => k _ H2 (s1.trans s2) (.lst (gh_at ((P.same (s.trans s1)).ne n) (((I.same s1)).new n) h2) (DxAll.same (gh_same s2) t1))⟩
theorem ev_neg {i : Int} {te : TE} (h : Ev K p H0 σ te (.int i)) : Ev K p H0 σ (tUn (rU fun i => .int (-i)) te) (.int (-i)) := fun S H Q I s k =>
  h.go I s fun v H1 s1 q1 => by
    cases q1
    exact ⟨i, rfl, k _ H1 s1 (.int _)⟩
theorem ev_I0 {f : Int → Int → V} {g : Int → Int → PyData} {i j : Int} {ta tb : TE} (hf : ∀ H, Dx K H (f i j) (g i j)) (ha : Ev K p H0 σ ta (.int i)) (hb : Ev K p H0 σ tb (.int j)) : Ev K p H0 σ (tOp (rI0 f) ta tb) (g i j) := fun S H Q I s k =>
  ha.go I s fun v H1 s1 q1 => hb.go (I.same s1) (s.trans s1) fun u H2 s2 q2 => by
    cases q1
    cases q2
    exact ⟨i, j, rfl, rfl, k _ H2 (s1.trans s2) (hf _)⟩
theorem ev_add {i j : Int} {ta tb : TE} (ha : Ev K p H0 σ ta (.int i)) (hb : Ev K p H0 σ tb (.int j)) : Ev K p H0 σ (tOp (rI0 fun i j => .int (i + j)) ta tb) (.int (i + j)) := ev_I0 (g := fun i j => .int (i + j)) (fun _ => .int _) ha hb
theorem ev_sub {i j : Int} {ta tb : TE} (ha : Ev K p H0 σ ta (.int i)) (hb : Ev K p H0 σ tb (.int j)) : Ev K p H0 σ (tOp (rI0 fun i j => .int (i - j)) ta tb) (.int (i - j)) := ev_I0 (g := fun i j => .int (i - j)) (fun _ => .int _) ha hb
theorem ev_mul {i j : Int} {ta tb : TE} (ha : Ev K p H0 σ ta (.int i)) (hb : Ev K p H0 σ tb (.int j)) (c : CMul i j) : Ev K p H0 σ (tOp (rI CMul fun i j => .int (i * j)) ta tb) (.int (i * j)) := fun S H Q I s k =>
  ha.go I s fun v H1 s1 q1 => hb.go (I.same s1) (s.trans s1) fun u H2 s2 q2 => by
    cases q1
    cases q2
    exact ⟨i, j, rfl, rfl, c, k _ H2 (s1.trans s2) (.int _)⟩
theorem ev_pow {i j : Int} {ta tb : TE} (ha : Ev K p H0 σ ta (.int i)) (hb : Ev K p H0 σ tb (.int j)) (c : CPow i j) : Ev K p H0 σ (tOp (rI CPow fun i j => .int (i ^ j.toNat)) ta tb) (.int (i ^ j.toNat)) := fun S H Q I s k =>
  ha.go I s fun v H1 s1 q1 => hb.go (I.same s1) (s.trans s1) fun u H2 s2 q2 => by
    cases q1
    cases q2
    exact ⟨i, j, rfl, rfl, c, k _ H2 (s1.trans s2) (.int _)⟩
theorem ev_eqI {i j : Int} {ta tb : TE} (ha : Ev K p H0 σ ta (.int i)) (hb : Ev K p H0 σ tb (.int j)) : Ev K p H0 σ (tOp rEq ta tb) (.bool (decide (V.int i = V.int j))) := fun S H Q I s k =>
  ha.go I s fun v H1 s1 q1 => hb.go (I.same s1) (s.trans s1) fun u H2 s2 q2 => by
    cases q1
    cases q2
    exact ⟨rfl, k _ H2 (s1.trans s2) (.bl _)⟩
theorem ev_strI {i : Int} {te : TE} (h : Ev K p H0 σ te (.int i)) (c : i.natAbs.log2 < 1920) : Ev K p H0 σ (tCB (fun xs H Q => ∃ i : Int, xs = [.int i] ∧ i.natAbs.log2 < 1920 ∧ Q (.str (toString i)) H) (tCons te tNil)) (.str (toString i)) := fun S H Q I s k =>
  h.go I s fun v H1 s1 q1 => by
    cases q1
    exact ⟨i, rfl, c, k _ H1 s1 (.str _)⟩
theorem ev_lenT {te : TE} {xs : List PyData} (h : Ev K p H0 σ te (.tuple xs)) : Ev K p H0 σ (tCB rLen' (tCons te tNil)) (.int (xs.length : Nat)) := fun S H Q I s k =>
  h.go I s fun v H1 s1 q1 => by
    obtain ⟨a, vs, rfl, h1, t1, g1⟩ := dx_tupG q1
    refine ⟨a, vs, rfl, .inr h1, ?_⟩
    rw [t1.len]
    exact k _ H1 s1 (.int _)
theorem ev_len {te : TE} {xs : List PyData} (h : Ev K p H0 σ te (.list xs)) : Ev K p H0 σ (tCB rLen' (tCons te tNil)) (.int (xs.length : Nat)) := fun S H Q I s k =>
  h.go I s fun v H1 s1 q1 => by
    obtain ⟨a, vs, rfl, h1, t1, g1⟩ := dx_lst q1
    refine ⟨a, vs, rfl, .inl h1, ?_⟩
    rw [t1.len]
    exact k _ H1 s1 (.int _)
theorem ev_dnew (P : IsL p H0) : Ev K p H0 σ tDNewK (.dict []) := fun S H Q I s k a n => k _ _ (same_new n) (.dic (gh_at ((P.same s).ne n) (I.new n) upd_same) .nil)
/-- a dict of one number or text -/
theorem ev_disp1 {tk tv : TE} {k0 : L2.Key} {d : PyData} (P : IsL p H0) (hk : Ev K p H0 σ tk (keyD k0)) (hv : Ev K p H0 σ tv d) : Ev K p H0 σ (tDisp [(tk, tv)]) (.dict [(keyD k0, d)]) := fun S H Q I s k a n => by
  have s0 := same_new (o := .dK []) n
  have na := (P.same s).ne n
  have n0 : H0 a = none := s.free n
  have I1 : Hid (a :: S) H0 (upd H a (.dK [])) := fun b m => by
    rcases List.mem_cons.mp m with rfl | m
    · exact ⟨n0, _, upd_same, fun _ e => by cases e⟩
    · exact (I.same s0) b m
  refine hk.go I1 (s.trans s0) fun x H1 s1 q1 => hv.go (I1.same s1) (s.trans (s0.trans s1)) fun y H2 s2 q2 => ?_
  have ha : H2 a = some (.dK []) := s2 _ _ (s1 _ _ upd_same)
  have ex : x = kV k0 := by
    cases k0 with
    | inl i => cases q1; rfl
    | inr z => cases q1; rfl
  subst ex
  refine ⟨ha, [(k0, y)], rfl, by simp, ?_⟩
  have s3 : Same H (upd H2 a (.dK (mergeK [] [(k0, y)]))) := fun b o e => by
    rw [upd_ne (fun z => by rw [z, n] at e; cases e)]
    exact s2 _ _ (s1 _ _ (s0 _ _ e))
  refine k _ _ s3 (.dic (gh_at na (I.new n) upd_same) ?_)
  refine .cons (k := k0) (Dx.same (fun b o e => ?_) q2) .nil
  have eb := gh_in _ _ e
  have nb : b ≠ a := fun z => by
    unfold gh at e
    rw [z, if_pos List.mem_cons_self] at e
    cases e
  have mb : b ∉ S := fun m => by
    unfold gh at e
    rw [if_pos (List.mem_cons_of_mem _ m)] at e
    cases e
  have pb : b ≠ p := fun z => by
    have e2 := gh_hd _ _ e
    rw [z, show hd p H2 p = none from if_pos rfl] at e2
    cases e2
  exact gh_at pb mb (by rw [upd_ne nb]; exact eb)
end
end Af

set_option Elab.async false
set_option linter.all false
set_option maxRecDepth 100000
set_option maxHeartbeats 8000000
namespace Af
open PySem PySem.Spec L2
abbrev s_l_odd : Stmt := top 63
abbrev N_l_odd : List Str := ["_law_pen_here", "_law_odd_here"]
theorem sc_l_odd : FnScope N_l_odd ["_law_pen_here"] (defScope s_l_odd) := ⟨rfl, rfl, rfl, by decide +kernel, rfl, by decide +kernel, by decide +kernel⟩

theorem al_nil {S : PyData → Prop} : ∀ y ∈ ([] : List PyData), S y := fun y hy => by cases hy
theorem al_cons {S : PyData → Prop} {x : PyData} {xs : List PyData} (h : S x) (t : ∀ y ∈ xs, S y) : ∀ y ∈ x :: xs, S y := fun y hy => by
  rcases List.mem_cons.mp hy with rfl | hy
  · exact h
  · exact t y hy
def odd1 : List PyData := [.none, .bool true, .bool false, .int (-1), .int 0, .int 1, .int 3, .int 5, .int 8, .int 24, .str "0", .list [.int 0], .tuple [], .tuple [.int 0], .tuple [.int 7, .int 7], .tuple [.int 8], .tuple [.bool true], .tuple [.int 0, .none], .tuple [.tuple [.int 0]], .dict []]
def odd2 : List PyData := [.int (10 ^ (39 : Int).toNat), .list [.int 0, .int 1], .tuple [.int (-1)], .tuple [.int 1, .int 2, .int 3]]
def OddS (d : PyData) : Prop := Odd d ∧ ShT d
theorem odd1_ok : ∀ d ∈ odd1, OddS d := by
  unfold odd1
  repeat' first | exact al_nil (S := OddS) | refine al_cons (S := OddS) ?_ ?_
  all_goals
    refine ⟨⟨fun ds e => ?_, ⟨by decide +kernel, rfl, by simp [PyData.depth, PyData.depthAll, PyData.depthKv]⟩, by decide⟩, fun ds e => ?_⟩
    · rcases e with e | e <;> first | (cases e; decide) | cases e
    · first | (cases e; rfl) | cases e
theorem odd2_ok : ∀ d ∈ odd2, OddS d := by
  unfold odd2
  repeat' first | exact al_nil (S := OddS) | refine al_cons (S := OddS) ?_ ?_
  all_goals
    refine ⟨⟨fun ds e => ?_, ⟨by decide +kernel, rfl, by simp [PyData.depth, PyData.depthAll]⟩, by decide⟩, fun ds e => ?_⟩
    · rcases e with e | e <;> first | (cases e; decide) | cases e
    · first | (cases e; rfl) | cases e
theorem odd_ok : ∀ d ∈ odd1 ++ odd2, OddS d := fun d m => by
  rcases List.mem_append.mp m with m | m
  · exact odd1_ok d m
  · exact odd2_ok d m
def NoT (S : List Addr) (H : Hp) : Prop := ∀ a ∈ S, ∃ o, H a = some o ∧ ∀ xs, o ≠ HO.tup xs
theorem NoT.hid {S : List Addr} {H : Hp} (h : NoT S H) : Hid S (hl S H) H := fun a m => ⟨if_pos m, h a m⟩
theorem gh_hl {S : List Addr} {p : Addr} {H : Hp} : Same (gh S p H) (hd p (hl S H)) := fun a o e => by
  unfold gh at e
  by_cases m : a ∈ S
  · rw [if_pos m] at e; cases e
  · rw [if_neg m] at e
    have np : a ≠ p := fun z => by rw [z, show Af.hd p H p = none from if_pos rfl] at e; cases e
    rw [hd_ne np] at e ⊢
    rw [hl_at m]
    exact e
theorem gh_go {S : List Addr} {q : Pn} {m : Nat} {H H' : Hp} (g : Go q m H H') : Same (gh S q.p H) (gh S q.p H') := fun a o e => by
  unfold gh at e ⊢
  by_cases mm : a ∈ S
  · rw [if_pos mm] at e; cases e
  · rw [if_neg mm] at e ⊢
    have np : a ≠ q.p := fun z => by rw [z, show Af.hd q.p H q.p = none from if_pos rfl] at e; cases e
    rw [hd_ne np] at e ⊢
    exact g.kp a o (.inl np) e
theorem gName_go {i : Nat} {σ : L2.St} {v : V} {H : Hp} {Q : L2.St → Hp → Prop} (h : Q (σ.set i (some v)) H) : gName i v σ H Q := h
theorem Ev.asgG {K : PySem.W.Frag} {p : Addr} {H0 : Hp} {σ : L2.St} {te : TE} {d : PyData} {H : Hp} {g : TG} {u : TS} {D : Ends} {S : List Addr} (e : Ev K p H0 σ te d) (i : Hid S H0 H) (s : Same H0 H) (k : ∀ v H', Same H H' → Dx K (gh S p H') v d → g v σ H' (u D)) : tSeq (tAsg te g) u D σ H := e.go i s k
theorem Ev.opG {K : PySem.W.Frag} {p : Addr} {H0 : Hp} {σ : L2.St} {ta tb : TE} {r : R2} {d : PyData} {H : Hp} {D : Ends} {S : List Addr} (e : Ev K p H0 σ ta d) (i : Hid S H0 H) (s : Same H0 H) (k : ∀ v H', Same H H' → Dx K (gh S p H') v d → tb σ H' (fun y H2 => r v y H2 D.rt)) : tRet (tOp r ta tb) D σ H := e.go i s k
def sp_odd (K : PySem.W.Frag) : Sp := fun vs H Q _ => ∃ (q : Pn) (m : Nat) (S : List Addr), vs = [.ref q.p] ∧ Pen q m H ∧ m + 5 < 1000000000000 ∧ NoT S H ∧ q.p ∉ S ∧ ∀ v d H', Go q (m + 1) H H' → OddS d → Dx K (gh S q.p H') v d → Q v H'
section
variable {P : Program} {w : World} {K : PySem.W.Frag} {mg : Str → Option Value} {base : Heap}
theorem ok_odd {f : Addr} {fd : FuncData} (F : Fun K "_law_odd" "_law_odd" s_l_odd f fd) (T : Txt mg) (c_l_draw : Cal P w K mg base 2 "_law_draw" ["_law_pen_here", "_law_under"] sp_draw) : FnOk P w K mg base CX0 3 f fd ["_law_pen_here"] (sp_odd K) := by
  refine F.ok sc_l_odd (fun vs H Q E h => ?_) (fun cdv A outer s H vs Q E hr h => ?_)
  · obtain ⟨_, _, _, rfl, _⟩ := h
    rfl
  obtain ⟨q, m, S, rfl, pn, hm, nt, qs, k⟩ := h
  refine ⟨_, (pss_cons (ps_set (i := 1) sc_l_odd.nd rfl (Or.inl rfl) (pe_lst' (pa_cons pe_non (pa_cons pe_bl (pa_cons pe_bl (pa_cons (pe_un un_neg pe_int) (pa_cons pe_int (pa_cons pe_int (pa_cons pe_int (pa_cons pe_int (pa_cons pe_int (pa_cons pe_int (pa_cons pe_str (pa_cons (pe_lst' (pa_cons pe_int pa_nil)) (pa_cons (pe_tup' pa_nil) (pa_cons (pe_tup' (pa_cons pe_int pa_nil)) (pa_cons (pe_tup' (pa_cons pe_int (pa_cons pe_int pa_nil))) (pa_cons (pe_tup' (pa_cons pe_int pa_nil)) (pa_cons (pe_tup' (pa_cons pe_bl pa_nil)) (pa_cons (pe_tup' (pa_cons pe_int (pa_cons pe_non pa_nil))) (pa_cons (pe_tup' (pa_cons (pe_tup' (pa_cons pe_int pa_nil)) pa_nil)) (pa_cons pe_dnewK pa_nil))))))))))))))))))))))
    (pss_one (ps_ret (pe_ix ix_seq' (pe_op op_cat' (pv 1) (pe_lst' (pa_cons (pe_op op_pow pe_int pe_int) (pa_cons (pe_lst' (pa_cons pe_int (pa_cons pe_int pa_nil))) (pa_cons (pe_tup' (pa_cons (pe_un un_neg pe_int) pa_nil)) (pa_cons (pe_tup' (pa_cons pe_int (pa_cons pe_int (pa_cons pe_int pa_nil)))) pa_nil)))))) (pe_cal c_l_draw hr (pa_cons (pv 0) (pa_cons pe_int pa_nil))) (fun _ _ => rfl))))), ?_⟩
  have Pl : IsL q.p (hl S H) := by
    obtain ⟨l, e⟩ := pn.lst
    exact ⟨l, (hl_at qs).trans e⟩
  refine Ev.asgG (K := K) (p := q.p) (H0 := hl S H) (d := .list odd1) ?e1 nt.hid hl_in fun v H1 s1 q1 => ?_
  case e1 =>
    unfold odd1
    repeat' first | exact evs_nil | apply evs_cons | exact ev_int | exact ev_non | exact ev_bl | exact ev_str | apply ev_tup Pl | apply ev_lst Pl | apply ev_neg | apply ev_dnew Pl
    all_goals (simp only [List.length_cons, List.length_nil]; omega)
  refine gName_go ?_
  obtain ⟨a, xs, rfl, ha, t1, ga⟩ := dx_lst q1
  have nt1 : NoT S H1 := fun z m => by
    obtain ⟨o, e, n⟩ := nt z m
    exact ⟨o, s1 _ _ e, n⟩
  have Pl1 : IsL q.p (hl S H1) := by
    obtain ⟨l, e⟩ := pn.lst
    exact ⟨l, (hl_at qs).trans (s1 _ _ e)⟩
  have l2 : odd1.length + odd2.length ≤ 100000 := by unfold odd1 odd2; simp only [List.length_cons, List.length_nil]; omega
  refine Ev.opG (K := K) (p := q.p) (H0 := hl S H1) (d := .list (odd1 ++ odd2)) (ev_cat Pl1 (ev_var rfl (Dx.same gh_hl q1)) ?e2 l2) nt1.hid hl_in fun v H2 s2 q2 => ?_
  case e2 =>
    unfold odd2
    repeat' first | exact evs_nil | apply evs_cons | exact ev_int | exact ev_non | exact ev_bl | exact ev_str | apply ev_tup Pl1 | apply ev_lst Pl1 | apply ev_pow | apply ev_neg
    all_goals first | exact ⟨by decide, by decide, by decide⟩ | (simp only [List.length_cons, List.length_nil]; omega)
  obtain ⟨b, ys, rfl, hb, t2, gb⟩ := dx_lst q2
  have S2 := s1.trans s2
  refine ⟨_, rfl, q, m, 24, rfl, by decide, by decide, pn.same S2, by omega, fun d H3 d0 d1 g3 => ?_⟩
  obtain ⟨n, rfl⟩ := Int.eq_ofNat_of_zero_le d0
  have bq : b ≠ q.p := fun z => by
    have := gh_hd _ _ gb
    rw [z, show Af.hd q.p H2 q.p = none from if_pos rfl] at this
    cases this
  have yl : ys.length = 24 := t2.len.trans (by unfold odd1 odd2; simp only [List.length_append, List.length_cons, List.length_nil])
  have hn : n < ys.length := by omega
  obtain ⟨dd, hd, dy⟩ := t2.at (List.getElem?_eq_getElem hn)
  refine ⟨b, _, _, _, rfl, rfl, .inl (g3.kp.lst bq hb), atI_nat (List.getElem?_eq_getElem hn), ?_⟩
  exact k _ dd H3 ((Go.of pn S2).trans g3) (odd_ok dd (List.mem_of_getElem? hd)) (Dx.same (gh_go g3) dy)
end
end Af

set_option Elab.async false
set_option linter.all false
set_option maxRecDepth 100000
set_option maxHeartbeats 8000000
namespace Af
open PySem PySem.Spec L2
section
variable {X : Cx} {k j : Nat} {x : Str} {ps : List Str} {sp : Sp} {p pos : Pos}
theorem pe_calG0 (c : CalG X.prog X.w X.K X.mg X.base k x ps sp) (room : Room j X.A) (quiet : X.A.guards = some []) (hkj : k ≤ j := by decide) (hg : Gl X x := by rfl) (dbg : (x == ("__debug__" : Str)) = false := by decide) :
    PE X (.Call (.Name x p) [] [] pos) (tCal sp tNil) := by
  obtain ⟨f, fd, G, m, kp, b⟩ := c.ex
  refine ⟨fun pins s σ H Q I h => wpAny_Call_Name_kw (ld_glob I hg m (PySem.W.callWith_K0 I.kIn kp ?_) dbg)⟩
  have q : sp [] H Q E0 := h
  have nl : ([] : List Value).length = ps.length := G.many _ _ _ _ q
  have bb := b s [] I.kIn (by rw [List.append_nil]; exact nl)
  rw [List.append_nil] at bb
  refine wpAny_call (codeAny_mono (G.goes X.A X.stack s H ⟨[], []⟩ [] [] Q E0 (room.mono hkj) quiet I.env0 bb .nil q) fun r s' z => ?_)
  match r, z with
  | .error e, z => exact pass0 pins σ H s e s' I z
  | .ok (.ret u), z => exact I.after z
  | .ok .next, z => exact (show False from z).elim
  | .ok .brk, z => exact (show False from z).elim
  | .ok .cont, z => exact (show False from z).elim
end
/-! calls of any kind -/
inductive Gc where
  | wr (d1 d2 : PyData)
  | bar
  | lose
  | undo
  | ari (d : PyData)
def GcV (K : PySem.W.Frag) (H : Hp) (t : Addr) : Gc → Prop
  | .wr d1 d2 => ∃ v1 v2, H t = some (.tup [.str "write", v1, v2]) ∧ Dx K H v1 d1 ∧ Dx K H v2 d2
  | .bar => H t = some (.tup [.str "barrier"])
  | .lose => H t = some (.tup [.str "lose"])
  | .undo => H t = some (.tup [.str "undo"])
  | .ari d => ∃ v, H t = some (.tup [.str "arrive", v]) ∧ Dx K H v d
theorem GcV.same {K : PySem.W.Frag} {H H' : Hp} {t : Addr} {b : Gc} (h : GcV K H t b) (s : Same H H') : GcV K H' t b := by
  cases b with
  | wr d1 d2 => obtain ⟨v1, v2, h1, h2, h3⟩ := h; exact ⟨v1, v2, s _ _ h1, Dx.same s h2, Dx.same s h3⟩
  | ari d => obtain ⟨v, h1, h2⟩ := h; exact ⟨v, s _ _ h1, Dx.same s h2⟩
  | bar => exact s _ _ h
  | lose => exact s _ _ h
  | undo => exact s _ _ h
def GcG : Gc → Prop
  | .wr d1 d2 => OddS d1 ∧ OddS d2
  | .ari d => OddS d
  | _ => True
def outG (s : Sv) (es : List Sv) : Gc → Sv × List Sv
  | .wr d1 d2 => if stepQ (s.pl.cs.length : Nat) (.tuple [d1, d2]) = true then (nx s (.wr (intD d1) (intsD d2)), nxE s es (.wr (intD d1) (intsD d2))) else (s, es)
  | .bar => (nx s .bar, nxE s es .bar)
  | .lose => (nx s .lose, nxE s es .lose)
  | .undo => match es.getLast? with
    | none => (s, es)
    | some s0 => (s0, es.dropLast)
  | .ari d => if idxD ((pcs s).length : Nat) d = true then (nx s (.ari (intD d)), nxE s es (.ari (intD d))) else (s, es)
theorem outG_wT {s : Sv} {es : List Sv} {d1 d2 : PyData} (q : stepQ (s.pl.cs.length : Nat) (.tuple [d1, d2]) = true) : outG s es (.wr d1 d2) = (nx s (.wr (intD d1) (intsD d2)), nxE s es (.wr (intD d1) (intsD d2))) := if_pos q
theorem outG_wF {s : Sv} {es : List Sv} {d1 d2 : PyData} (q : stepQ (s.pl.cs.length : Nat) (.tuple [d1, d2]) = false) : outG s es (.wr d1 d2) = (s, es) := if_neg (by rw [q]; decide)
theorem outG_aT {s : Sv} {es : List Sv} {d : PyData} (q : idxD ((pcs s).length : Nat) d = true) : outG s es (.ari d) = (nx s (.ari (intD d)), nxE s es (.ari (intD d))) := if_pos q
theorem outG_aF {s : Sv} {es : List Sv} {d : PyData} (q : idxD ((pcs s).length : Nat) d = false) : outG s es (.ari d) = (s, es) := if_neg (by rw [q]; decide)
theorem outG_u0 {s : Sv} : outG s [] .undo = (s, []) := rfl
theorem outG_u1 {s s0 : Sv} {es : List Sv} : outG s (es ++ [s0]) .undo = (s0, es) := by
  show (match (es ++ [s0]).getLast? with
    | none => (s, es ++ [s0])
    | some s0' => (s0', (es ++ [s0]).dropLast)) = _
  rw [List.getLast?_concat, List.dropLast_concat]
theorem outG_len (s : Sv) (es : List Sv) (c : Gc) : (outG s es c).2.length ≤ es.length + 1 := by
  cases c with
  | wr d1 d2 =>
    cases q : stepQ (s.pl.cs.length : Nat) (.tuple [d1, d2]) with
    | true => rw [outG_wT q]; exact nxE_len _ _ _
    | false => rw [outG_wF q]; exact Nat.le_succ _
  | bar => exact nxE_len s es .bar
  | lose => exact nxE_len s es .lose
  | undo =>
    rcases List.eq_nil_or_concat es with e | ⟨b, c, e⟩
    · subst e
      exact Nat.zero_le _
    · rw [List.concat_eq_append] at e
      subst e
      rw [outG_u1, List.length_append]
      show b.length ≤ _
      omega
  | ari d =>
    cases q : idxD ((pcs s).length : Nat) d with
    | true => rw [outG_aT q]; exact nxE_len _ _ _
    | false => rw [outG_aF q]; exact Nat.le_succ _
theorem pair_ints {K : PySem.W.Frag} {H : Hp} {v1 v2 : V} {d1 d2 : PyData} {n : Nat} (h1 : Dx K H v1 d1) (h2 : Dx K H v2 d2) (q : stepQ (n : Nat) (.tuple [d1, d2]) = true) : v1 = .int (intD d1) ∧ ∃ b, v2 = .ref b ∧ H b = some (.tup (ivs (intsD d2))) ∧ OkS n (some (intD d1, intsD d2)) := by
  have q : (idxD (n : Nat) d1 && worthsD d2 && addD (n : Nat) (lenD d2) d1) = true := q
  rw [Bool.and_eq_true, Bool.and_eq_true] at q
  obtain ⟨⟨q1, q2⟩, q3⟩ := q
  obtain ⟨e1, b0, b1⟩ := dx_int h1 q1
  obtain ⟨b, e2, hb, ne, bd⟩ := dx_let h2 q2
  refine ⟨e1, b, e2, hb, b0, ne, ?_, bd⟩
  have l : lenD d2 = (intsD d2).length := by
    cases d2 with
    | tuple ds => show ds.length = (ds.map intD).length; rw [List.length_map]
    | _ => cases q2
  rw [← dx_add h1, e1, l] at q3
  exact of_decide_eq_true q3
def sp_calledU (K : PySem.W.Frag) (S C R : Addr) : Sp := fun vs H Q E => sp_called S C R vs H Q E ∨ sp_calledB K S C R vs H Q E
theorem calledU {K : PySem.W.Frag} {S C R : Addr} {L : List Addr} {H : Hp} {x el pg t : Addr} {s : Sv} {es : List Sv} {c : Gc} {Qx : Hp → Prop} (d : DuoV S C R L H x el pg s es) (le : es.length < 900) (hc : GcV K H t c) (gc : GcG c)
    (kQ : ∀ H', Fr [x, el, pg] H H' → DuoV S C R L H' x el pg (outG s es c).1 (outG s es c).2 → Qx H') :
    (∃ (L : List Addr) (x' el pg' t' : Addr) (s : Sv) (es : List Sv), [V.ref x, .ref pg, .ref t] = [.ref x', .ref pg', .ref t'] ∧ DuoV S C R L H x' el pg' s es ∧ es.length < 900 ∧
      ((∃ cl, ClV H t' cl ∧ ClG s.pl.cs.length cl ∧ ∀ H', Fr [x', el, pg'] H H' → DuoV S C R L H' x' el pg' (nx s cl) (nxE s es cl) → Qx H') ∨
       (H t' = some (.tup [.str "undo"]) ∧ ((es = [] ∧ ∀ H', Same H H' → Qx H') ∨ (∃ es0 s0, es = es0 ++ [s0] ∧ ∀ H', Fr [x', el, pg'] H H' → DuoV S C R L H' x' el pg' s0 es0 → Qx H'))))) ∨
    (∃ (L : List Addr) (x' el pg' t' : Addr) (s : Sv) (es : List Sv) (b : Bc), [V.ref x, .ref pg, .ref t] = [.ref x', .ref pg', .ref t'] ∧ DuoV S C R L H x' el pg' s es ∧ BcV K H t' b ∧ BcG s.pl.cs.length (pcs s).length b ∧ ∀ H', Same H H' → Qx H') := by
  have g := d.ok s (List.mem_append.mpr (.inr (List.mem_singleton.mpr rfl)))
  have pc : (pcs s).length ≤ 40 := g.pl.pc
  cases c with
  | wr d1 d2 =>
    obtain ⟨v1, v2, ht, h1, h2⟩ := hc
    cases q : stepQ (s.pl.cs.length : Nat) (.tuple [d1, d2]) with
    | true =>
      obtain ⟨rfl, b, rfl, hb, ok⟩ := pair_ints h1 h2 q
      refine .inl ⟨L, x, el, pg, t, s, es, rfl, d, le, .inl ⟨.wr (intD d1) (intsD d2), ⟨b, ht, hb⟩, ok, fun H' f d' => kQ H' f ?_⟩⟩
      rw [outG_wT q]
      exact d'
    | false =>
      refine .inr ⟨L, x, el, pg, t, s, es, .wr d1 d2, rfl, d, ⟨v1, v2, ht, h1, h2⟩, ⟨gc.1.1, gc.2.1, gc.2.2, q⟩, fun H' m => kQ H' (Fr.of m) ?_⟩
      rw [outG_wF q]
      exact d.same m
  | bar => exact .inl ⟨L, x, el, pg, t, s, es, rfl, d, le, .inl ⟨.bar, hc, True.intro, fun H' f d' => kQ H' f d'⟩⟩
  | lose => exact .inl ⟨L, x, el, pg, t, s, es, rfl, d, le, .inl ⟨.lose, hc, True.intro, fun H' f d' => kQ H' f d'⟩⟩
  | undo =>
    refine .inl ⟨L, x, el, pg, t, s, es, rfl, d, le, .inr ⟨hc, ?_⟩⟩
    rcases List.eq_nil_or_concat es with e | ⟨b, c, e⟩
    · subst e
      exact .inl ⟨rfl, fun H' m => kQ H' (Fr.of m) (d.same m)⟩
    · rw [List.concat_eq_append] at e
      subst e
      refine .inr ⟨b, c, rfl, fun H' f d' => kQ H' f ?_⟩
      rw [outG_u1]
      exact d'
  | ari d0 =>
    obtain ⟨v, ht, h1⟩ := hc
    cases q : idxD ((pcs s).length : Nat) d0 with
    | true =>
      obtain ⟨rfl, b0, b1⟩ := dx_int h1 q
      refine .inl ⟨L, x, el, pg, t, s, es, rfl, d, le, .inl ⟨.ari (intD d0), ht, ⟨b0, by omega⟩, fun H' f d' => kQ H' f ?_⟩⟩
      rw [outG_aT q]
      exact d'
    | false =>
      refine .inr ⟨L, x, el, pg, t, s, es, .ari d0, rfl, d, ⟨v, ht, h1⟩, ⟨gc.1, q⟩, fun H' m => kQ H' (Fr.of m) ?_⟩
      rw [outG_aF q]
      exact d.same m
def runG (s : Sv) (es : List Sv) (cs : List Gc) : Sv × List Sv := cs.foldl (fun p c => outG p.1 p.2 c) (s, es)
theorem runG_snoc (s : Sv) (es : List Sv) (cs : List Gc) (c : Gc) : runG s es (cs ++ [c]) = outG (runG s es cs).1 (runG s es cs).2 c := by
  unfold runG
  rw [List.foldl_append]
  rfl
theorem runG_len (s : Sv) (es : List Sv) : ∀ cs : List Gc, (runG s es cs).2.length ≤ es.length + cs.length := fun cs => by
  unfold runG
  induction cs generalizing s es with
  | nil => exact Nat.le_refl _
  | cons c cs ih =>
    have h := ih (outG s es c).1 (outG s es c).2
    have h2 := outG_len s es c
    rw [List.foldl_cons, List.length_cons]
    exact Nat.le_trans h (by omega)
/-- the two runs that are typed -/
def nOne (z : Int) : PyData := .tuple [.int z]
def two : PyData := .tuple [.int 1, .int 2]
def full1 : List Gc := (List.replicate 20 [Gc.wr (.int 0) two, .bar]).flatten ++ [.bar, .wr (.int 0) two, .wr (.int 0) (nOne 8), .wr (.int 0) (nOne 1), .ari (.int 0)] ++ [.lose, .bar]
def rep (n : Nat) (z : Int) : PyData := .tuple (List.replicate n (.int z))
def full2 : List Gc := [.wr (.int 0) (rep 24 1), .wr (.int 0) (rep 17 2), .wr (.int 0) (rep 16 2), .wr (.int 3) (nOne 1)] ++ [.bar]
theorem full1_len : (runG (begS ⟨[0, 0], 1, []⟩) [] full1).2.length = 43 := by decide +kernel
theorem full2_len : (runG (begS ⟨List.replicate 24 0, 1, []⟩) [] full2).2.length = 3 := by decide +kernel
end Af

set_option Elab.async false
set_option linter.all false
set_option maxRecDepth 100000
set_option maxHeartbeats 16000000
namespace Af
open PySem PySem.Spec L2
abbrev s_l_full_right : Stmt := top 65
abbrev N_l_full_right : List Str := ["_law_store", "_law_pages", "_law_calls", "_law_k", "_law_call_here"]
theorem sc_l_full_right : FnScope N_l_full_right [] (defScope s_l_full_right) := ⟨rfl, rfl, rfl, by decide +kernel, rfl, by decide +kernel, by decide +kernel⟩

theorem duo_new {S C R : Addr} {L : List Addr} {H1 H3 H4 : Hp} {x el p pg sl fl : Addr} {pl : Pl} (lk : Lok R L H1) (st : StoreV S C R L H1 x el (begS pl) []) (s13 : Same H1 H3) (px : PageX H3 (.ref p) pl [] sl fl) (n1 : H1 sl = none) (n2 : H1 fl = none) (npg : H3 pg = none) (s34 : Same H3 H4)
    (h4 : H4 pg = some (.lst [.ref p])) (okp : OkP pl) : DuoV S C R ([pg] ++ L) H4 x el pg (begS pl) [] := by
  have s14 := s13.trans s34
  have lk4 : Lok R ([pg] ++ L) H4 := (lk.same s14).app fun a m => by rw [List.mem_singleton.mp m]; exact .inl ⟨_, h4⟩
  obtain ⟨p', rows, tr, ca, xs, ep, hp, vp, vc, htr, hca, hsa, hst, hf, r10⟩ := id px
  have off : ∀ {c : Addr} {o : HO}, H3 c = some o → H1 c = none → c ∉ [pg] ++ L := fun {c o} e n m => by
    rcases List.mem_append.mp m with m | m
    · rw [List.mem_singleton.mp m, npg] at e; cases e
    · exact lk.new n m
  have pgel : pg ≠ el := fun e => by
    obtain ⟨vs, h⟩ := st.lst
    have := s13 _ _ h
    rw [← e, npg] at this
    cases this
  exact ⟨lk4, st.more s14 (fun a m => by rw [List.mem_singleton.mp m]; exact s13.free npg), by simp, pgel, ⟨_, h4, .cons (((px.same s34).hl lk4 (off hsa n1) (off hf n2)).v) .nil⟩, fun u m => by rw [List.mem_singleton.mp m]; exact pg_beg okp⟩
def CallV (K : PySem.W.Frag) (L : List Addr) (H : Hp) (v : V) (c : Gc) : Prop := ∃ t, v = .ref t ∧ GcV K (hl L H) t c
theorem CallV.same {K : PySem.W.Frag} {L : List Addr} {H H' : Hp} {v : V} {c : Gc} (h : CallV K L H v c) (s : Same (hl L H) (hl L H')) : CallV K L H' v c := by
  obtain ⟨t, e, g⟩ := h
  exact ⟨t, e, g.same s⟩
theorem calls_same {K : PySem.W.Frag} {L : List Addr} {H H' : Hp} {vs : List V} {cs : List Gc} (h : Paired (CallV K L H) vs cs) (s : Same (hl L H) (hl L H')) : Paired (CallV K L H') vs cs := L2.Paired.mapP h fun _ _ z => z.same s
theorem call_wr {K : PySem.W.Frag} {R : Addr} {L : List Addr} {H1 H2 H3 : Hp} {z : Int} {b t : Addr} {ws : List Int} (lk : Lok R L H1) (s2 : Same H1 H2) (nb : H1 b = none) (hb : H2 b = some (.tup (ivs ws))) (s3 : Same H2 H3) (nt : H2 t = none) (ht : H3 t = some (.tup [.str "write", .int z, .ref b])) : CallV K L H3 (.ref t) (.wr (.int z) (.tuple (dvs ws))) :=
  ⟨t, rfl, .int z, .ref b, (hl_at ((lk.same s2).new nt)).trans ht, .int z, Dx.of (.tup ((hl_at (lk.new nb)).trans (s3 _ _ hb)) (dq_ints ws))⟩
theorem rep_ivs (z : Int) : ∀ n : Nat, (List.replicate n [V.int z]).flatten = ivs (List.replicate n z)
  | 0 => rfl
  | n + 1 => by
    rw [List.replicate_succ, List.flatten_cons, rep_ivs z n]
    rfl
theorem rep_at {H : Hp} {a : Addr} {z : Int} (n : Nat) (h : H a = some (.tup (List.replicate ((n : Nat) : Int).toNat [V.int z]).flatten)) : H a = some (.tup (ivs (List.replicate n z))) := by
  rw [← rep_ivs]
  exact h
theorem call_wr' {K : PySem.W.Frag} {R : Addr} {L : List Addr} {H2 H3 : Hp} {z : Int} {b t : Addr} {ws : List Int} (lk : Lok R L H2) (hb : H2 b = some (.tup (ivs ws))) (s3 : Same H2 H3) (nt : H2 t = none) (ht : H3 t = some (.tup [.str "write", .int z, .ref b])) : CallV K L H3 (.ref t) (.wr (.int z) (.tuple (dvs ws))) :=
  ⟨t, rfl, .int z, .ref b, (hl_at (lk.new nt)).trans ht, .int z, Dx.of (.tup ((hl_at (lk.tup hb)).trans (s3 _ _ hb)) (dq_ints ws))⟩
theorem call_one {K : PySem.W.Frag} {R : Addr} {L : List Addr} {H1 H2 : Hp} {t : Addr} {c : Gc} (lk : Lok R L H1) (nt : H1 t = none) (ht : GcV K H2 t c) (h : c = .bar ∨ c = .lose) : CallV K L H2 (.ref t) c := by
  refine ⟨t, rfl, ?_⟩
  rcases h with rfl | rfl <;> exact (hl_at (lk.new nt)).trans ht
theorem wd_tup {ds : List PyData} (l : ds.length ≤ 1000) : WdD (.tuple ds) := fun es e => by
  rcases e with e | e <;> cases e
  exact l
theorem wd_int {z : Int} : WdD (.int z) := fun es e => by
  rcases e with e | e <;> cases e
theorem sh_no {z : Int} : ShT (.int z) := fun ds e => by cases e
theorem sh_tup (ws : List Int) : ShT (.tuple (dvs ws)) := fun ds e => by
  cases e
  exact sh_ints ws
theorem dvs_length (ws : List Int) : (dvs ws).length = ws.length := List.length_map _
theorem int_ok {z : Int} (h : 0 ≤ z ∧ z ≤ 64) : OddS (.int z) := ⟨⟨wd_int, (Bd.flat (flat_place h)).mono (by decide) (by decide), Nat.zero_le _⟩, sh_no⟩
theorem ints_ok {ws : List Int} (l : ws.length ≤ 24) (h : ∀ z ∈ ws, 0 ≤ z ∧ z ≤ 64) : OddS (.tuple (dvs ws)) := by
  have b : Bd 1200 3 (.tuple (dvs ws)) := (Bd.tup (b := 45) (n := 1) (k := 24) (fun d hd => by
    obtain ⟨z, hz, rfl⟩ := dvs_mem hd
    exact Bd.flat (flat_place (h z hz))) (by rw [dvs_length]; exact l)).mono (by decide) (by decide)
  exact ⟨⟨wd_tup (by rw [dvs_length]; omega), b, by show (dvs ws).length ≤ 24; rw [dvs_length]; exact l⟩, sh_tup ws⟩
theorem two_ok : OddS two := ints_ok (ws := [1, 2]) (by decide) (by decide)
theorem n1_ok {z : Int} (h : 0 ≤ z ∧ z ≤ 64) : OddS (nOne z) := ints_ok (ws := [z]) (show 1 ≤ 24 by decide) (fun y hy => by rw [List.mem_singleton.mp hy]; exact h)
theorem full1_ok : ∀ c ∈ full1, GcG c := fun c m => by
  have h : c ∈ [Gc.wr (.int 0) two, .bar, .wr (.int 0) (nOne 8), .wr (.int 0) (nOne 1), .ari (.int 0), .lose] := by
    unfold full1 at m
    rcases List.mem_append.mp m with m | m
    · rcases List.mem_append.mp m with m | m
      · obtain ⟨l, hl, m⟩ := List.mem_flatten.mp m
        rw [(List.mem_replicate.mp hl).2] at m
        simp only [List.mem_cons, List.not_mem_nil, or_false] at m ⊢
        rcases m with m | m <;> simp [m]
      · simp only [List.mem_cons, List.not_mem_nil, or_false] at m ⊢
        rcases m with m | m | m | m | m <;> simp [m]
    · simp only [List.mem_cons, List.not_mem_nil, or_false] at m ⊢
      rcases m with m | m <;> simp [m]
  simp only [List.mem_cons, List.not_mem_nil, or_false] at h
  rcases h with rfl | rfl | rfl | rfl | rfl | rfl
  · exact ⟨int_ok (by decide), two_ok⟩
  · exact True.intro
  · exact ⟨int_ok (by decide), n1_ok (by decide)⟩
  · exact ⟨int_ok (by decide), n1_ok (by decide)⟩
  · exact int_ok (by decide)
  · exact True.intro
theorem rep_dvs (n : Nat) (z : Int) : rep n z = .tuple (dvs (List.replicate n z)) := by unfold rep dvs; rw [List.map_replicate]
theorem full2_ok : ∀ c ∈ full2, GcG c := fun c m => by
  unfold full2 at m
  simp only [List.cons_append, List.nil_append, List.mem_cons, List.not_mem_nil, or_false] at m
  have r : ∀ {n : Nat} {z : Int}, n ≤ 24 → 0 ≤ z ∧ z ≤ 64 → OddS (rep n z) := fun {n z} hn hz => by
    rw [rep_dvs]
    exact ints_ok (by rw [List.length_replicate]; exact hn) fun y hy => by rw [(List.mem_replicate.mp hy).2]; exact hz
  rcases m with rfl | rfl | rfl | rfl | rfl
  · exact ⟨int_ok (by decide), r (by decide) (by decide)⟩
  · exact ⟨int_ok (by decide), r (by decide) (by decide)⟩
  · exact ⟨int_ok (by decide), r (by decide) (by decide)⟩
  · exact ⟨int_ok (by decide), n1_ok (by decide)⟩
  · exact True.intro
def sp_full (K : PySem.W.Frag) : Sp := fun vs H Q _ => vs = [] ∧ ∀ H', Q (.bl true) H'
section
variable {P : Program} {w : World} {K : PySem.W.Frag} {mg : Str → Option Value} {base : Heap}
theorem ok_full {f S C R fI fL : Addr} {fd fdI fdL : FuncData} (F : Fun K "_law_full_right" "_law_full_right" s_l_full_right f fd) (T : Txt mg) (TR : ObjC K mg "Store" R RN) (M_Store : Mk K R fI) (G_Store : FnOk P w K mg base CX0 8 fI fdI ["self", "base", "width"] (sp_rinit S C R)) (b_Store : Binds K fdI ["self", "base", "width"] [])
    (O_len : LenC K R fL) (G_len : FnOk P w K mg base CX0 1 fL fdL ["self"] (sp_plen S C R)) (b_len : Binds K fdL ["self"] [])
    (c_l_called : CalG P w K mg base 13 "_law_called" ["_law_store", "_law_pages", "_law_call_here"] (sp_calledU K S C R)) (c_l_same : CalG P w K mg base 8 "_law_same" ["_law_store", "_law_pages"] (sp_same S C R)) : FnG P w K mg base 14 f fd [] (sp_full K) := by
  refine okG F sc_l_full_right (fun vs H Q E h => ?_) (fun cdv A outer s H vs Q E hr hg h => ?_)
  · obtain ⟨rfl, _⟩ := h
    rfl
  obtain ⟨rfl, k⟩ := h
  refine ⟨_, (pss_cons (ps_par3 (i := 0) (j := 1) (l := 2) rfl sc_l_full_right.nd rfl rfl rfl (by decide) (by decide) (by decide) rfl rfl rfl (pa_cons (pe_make M_Store G_Store (hr.mono (by decide)) rfl TR.mgC b_Store .nil pass0 (pa_cons (pe_tup' (pa_cons pe_int (pa_cons pe_int pa_nil))) (pa_cons pe_int pa_nil))) (pa_cons (pe_lst' (pa_cons (pe_disp (pps_cons pe_str (pe_tup' (pa_cons (pe_tup' (pa_cons pe_int (pa_cons pe_int pa_nil))) (pa_cons pe_int (pa_cons (pe_lst' pa_nil) pa_nil)))) (pps_cons pe_str (pe_lst' pa_nil) pps_nil)) rfl rfl (by simp) (by decide)) pa_nil)) (pa_cons (pe_lst' pa_nil) pa_nil))) (by rfl))
    (pss_cons (ps_for PassesOwn.never rfl (pi_range1 rfl T.range (pa_cons pe_int pa_nil)) (pg_name (i := 3) sc_l_full_right.nd rfl (Or.inl rfl))
      (pss_one (ps_set (i := 2) sc_l_full_right.nd rfl (Or.inl rfl) (pe_op op_cat' (pv 2) (pe_lst' (pa_cons (pe_tup' (pa_cons pe_str (pa_cons pe_int (pa_cons (pe_tup' (pa_cons pe_int (pa_cons pe_int pa_nil))) pa_nil)))) (pa_cons (pe_tup' (pa_cons pe_str pa_nil)) pa_nil)))))))
    (pss_cons (ps_set (i := 2) sc_l_full_right.nd rfl (Or.inl rfl) (pe_op op_cat' (pv 2) (pe_lst' (pa_cons (pe_tup' (pa_cons pe_str pa_nil)) (pa_cons (pe_tup' (pa_cons pe_str (pa_cons pe_int (pa_cons (pe_tup' (pa_cons pe_int (pa_cons pe_int pa_nil))) pa_nil)))) (pa_cons (pe_tup' (pa_cons pe_str (pa_cons pe_int (pa_cons (pe_tup' (pa_cons pe_int pa_nil)) pa_nil)))) (pa_cons (pe_tup' (pa_cons pe_str (pa_cons pe_int (pa_cons (pe_tup' (pa_cons pe_int pa_nil)) pa_nil)))) (pa_cons (pe_tup' (pa_cons pe_str (pa_cons pe_int pa_nil))) pa_nil))))))))
    (pss_cons (ps_for PassesOwn.never rfl (pi_list (pe_op op_cat' (pv 2) (pe_lst' (pa_cons (pe_tup' (pa_cons pe_str pa_nil)) (pa_cons (pe_tup' (pa_cons pe_str pa_nil)) pa_nil))))) (pg_name (i := 4) sc_l_full_right.nd rfl (Or.inl rfl))
      (pss_one (ps_if (pt_not (pt_val (pe_calG c_l_called hr hg (pa_cons (pv 0) (pa_cons (pv 1) (pa_cons (pv 4) pa_nil))))))
      (pss_one (ps_ret pe_bl))
      pss_nil)))
    (pss_cons (ps_cut (ps_if (PW.pt (pw_or (pt_not (pt_val (pe_calG c_l_same hr hg (pa_cons (pv 0) (pa_cons (pv 1) pa_nil))))) (pw_or1 (pt_cmpR op_ne (pe_callB (call_lenO O_len G_len b_len (hr.mono (by decide : 3 ≤ _))) (by rfl) T.len (by decide +kernel) (pa_cons (pv 0) pa_nil)) pe_int (nomark _)))))
      (pss_one (ps_ret pe_bl))
      pss_nil))
    (pss_cons (ps_par (i := 0) (j := 1) rfl sc_l_full_right.nd rfl rfl (by decide) rfl rfl (pa_cons (pe_make M_Store G_Store (hr.mono (by decide)) rfl TR.mgC b_Store .nil pass0 (pa_cons (pe_op op_repT' (pe_tup' (pa_cons pe_int pa_nil)) pe_int) (pa_cons pe_int pa_nil))) (pa_cons (pe_lst' (pa_cons (pe_disp (pps_cons pe_str (pe_tup' (pa_cons (pe_op op_repT' (pe_tup' (pa_cons pe_int pa_nil)) pe_int) (pa_cons pe_int (pa_cons (pe_lst' pa_nil) pa_nil)))) (pps_cons pe_str (pe_lst' pa_nil) pps_nil)) rfl rfl (by simp) (by decide)) pa_nil)) pa_nil)) (by rfl))
    (pss_cons (ps_set (i := 2) sc_l_full_right.nd rfl (Or.inl rfl) (pe_lst' (pa_cons (pe_tup' (pa_cons pe_str (pa_cons pe_int (pa_cons (pe_op op_repT' (pe_tup' (pa_cons pe_int pa_nil)) pe_int) pa_nil)))) (pa_cons (pe_tup' (pa_cons pe_str (pa_cons pe_int (pa_cons (pe_op op_repT' (pe_tup' (pa_cons pe_int pa_nil)) pe_int) pa_nil)))) (pa_cons (pe_tup' (pa_cons pe_str (pa_cons pe_int (pa_cons (pe_op op_repT' (pe_tup' (pa_cons pe_int pa_nil)) pe_int) pa_nil)))) (pa_cons (pe_tup' (pa_cons pe_str (pa_cons pe_int (pa_cons (pe_tup' (pa_cons pe_int pa_nil)) pa_nil)))) pa_nil))))))
    (pss_cons (ps_for PassesOwn.never rfl (pi_list (pe_op op_cat' (pv 2) (pe_lst' (pa_cons (pe_tup' (pa_cons pe_str pa_nil)) pa_nil)))) (pg_name (i := 4) sc_l_full_right.nd rfl (Or.inl rfl))
      (pss_one (ps_if (PW.pt (pw_or (pt_not (pt_val (pe_calG c_l_called hr hg (pa_cons (pv 0) (pa_cons (pv 1) (pa_cons (pv 4) pa_nil)))))) (pw_or1 (pt_not (pt_val (pe_calG c_l_same hr hg (pa_cons (pv 0) (pa_cons (pv 1) pa_nil))))))))
      (pss_one (ps_ret pe_bl))
      pss_nil)))
    (pss_one (ps_ret (pe_cmpR op_eq (pe_callB (call_lenO O_len G_len b_len (hr.mono (by decide : 3 ≤ _))) (by rfl) T.len (by decide +kernel) (pa_cons (pv 0) pa_nil)) pe_int (nomark _)))))))))))), ?_⟩
  refine ⟨szr, fun ca H1 n1 s1 h1 => fun x dx hx hdx ndx => ?_⟩
  have sm := s0_made (C := R) hx hdx
  have okp : OkP ⟨[0, 0], 1, []⟩ := ⟨by decide, by decide, by decide, by decide, by decide, fun x hx => (by cases hx), (by show 0 ≤ 40; decide), (by show 0 ≤ 40; decide)⟩
  refine ⟨[], x, dx, ca, [0, 0], 1, rfl, upd_same, (fun _ m => by cases m), (by simp), sm _ _ h1, okp, fun H2 el ko nel lk2 st2 => ⟨rfl, ?_⟩⟩
  refine fun p np => ?_
  have s3 : Same H2 (upd H2 p (.dK [])) := same_new np
  refine ⟨szr, fun cb H4 n4 s4 h4 => ⟨szr, fun sl H5 n5 s5 h5 => ⟨szr, fun tr H6 n6 s6 h6 => ⟨szr, fun fl H7 n7 s7 h7 => ?_⟩⟩⟩⟩
  have S7 := s4.trans (s5.trans (s6.trans s7))
  have hp7 := S7 _ _ upd_same
  refine ⟨hp7, [(.inr "plan", .ref tr), (.inr "came", .ref fl)], rfl, (by decide : 2 ≤ 15), szr, ?_⟩
  have e12 : mergeK [] [((.inr "plan" : L2.Key), V.ref tr), (.inr "came", .ref fl)] = [(.inr "plan", .ref tr), (.inr "came", .ref fl)] := rfl
  rw [e12]
  have f8 : ∀ {c : Addr} {o : HO}, H7 c = some o → (∀ r, o ≠ .dK r) → (upd H7 p (.dK [(.inr "plan", .ref tr), (.inr "came", .ref fl)])) c = some o := fun {c o} e n => by
    rw [upd_ne (fun zz => by rw [zz, hp7] at e; exact n _ (Option.some.inj e).symm)]
    exact e
  have px : PageX (upd H7 p (.dK [(.inr "plan", .ref tr), (.inr "came", .ref fl)])) (.ref p) ⟨[0, 0], 1, []⟩ [] sl fl := ⟨p, _, tr, cb, [], rfl, upd_same, rfl, rfl, f8 (s7 _ _ h6) (fun r z => by cases z), f8 (s7 _ _ (s6 _ _ (s5 _ _ h4))) (fun r z => by cases z), f8 (s7 _ _ (s6 _ _ h5)) (fun r z => by cases z), .nil, f8 h7 (fun r z => by cases z), by show 2 ≤ 10; decide⟩
  have s28 : Same H2 (upd H7 p (.dK [(.inr "plan", .ref tr), (.inr "came", .ref fl)])) := fun b o e => by
    rw [upd_ne (fun zz => by rw [zz, np] at e; cases e)]
    exact S7 _ _ (s3 _ _ e)
  have m1 : H2 sl = none := s3.free (s4.free n5)
  have m2 : H2 fl = none := s3.free (s4.free (s5.free (s6.free n7)))
  generalize upd H7 p (.dK [((.inr "plan" : L2.Key), V.ref tr), (.inr "came", .ref fl)]) = H8 at px s28 ⊢
  refine fun pg H9 n9 s9 h9 => ⟨szr, fun lc H10 n10 s10 h10 => ⟨_, _, _, rfl, ?_⟩⟩
  have d9 := duo_new lk2 st2 s28 px m1 m2 n9 s9 h9 okp
  have d10 := d9.same s10
  obtain ⟨L, eL⟩ : ∃ L, L = [pg] ++ ([x, el] ++ []) := ⟨_, rfl⟩
  rw [← eL] at d10
  clear px d9 st2 lk2 h9 n9 s9
  obtain ⟨b0, eb⟩ : ∃ b0, b0 = begS ⟨[0, 0], 1, []⟩ := ⟨_, rfl⟩
  rw [← eb] at d10
  have tm : ∀ z ∈ [x, el, pg], z ∈ L := by rw [eL]; exact in3 (by simp) (by simp) (by simp)
  refine ⟨20, rfl, by decide, by decide, for_range (n := 20) (lo := 0) (fun i σ' H' => ∃ lc ts v3, σ' = [some (.ref x), some (.ref pg), some (.ref lc), v3, none] ∧ DuoV S C R L H' x el pg b0 [] ∧ H' lc = some (.lst ts) ∧ Paired (CallV K L H') ts (List.replicate i [Gc.wr (.int 0) two, .bar]).flatten) ?_ ?_ ?_⟩
  · exact ⟨lc, [], none, rfl, d10, h10, .nil⟩
  · rintro i σ' G0 hi ⟨lc, ts, v3, rfl, dG, hlc, pc⟩
    refine ⟨_, rfl, szr, fun b G1 n1 s1 h1 => ⟨szr, fun t1 G2 n2 s2 h2 => ⟨szr, fun t2 G3 n3 s3 h3 => ⟨szr, fun l2 G4 n4 s4 h4 => ?_⟩⟩⟩⟩
    have S4 := s1.trans (s2.trans (s3.trans s4))
    have tl : ts.length ≤ 40 := by
      rw [paired_len pc, List.length_flatten, List.map_replicate, List.sum_replicate_nat]
      show i * 2 ≤ 40
      omega
    refine ⟨lc, l2, _, _, rfl, rfl, S4 _ _ hlc, h4, sz (by simp only [List.length_cons, List.length_nil]; omega), fun l3 G5 n5 s5 h5 => ?_⟩
    have S5 := S4.trans s5
    have c1 := (call_wr (K := K) (ws := [1, 2]) dG.lk s1 n1 h1 s2 n2 h2).same (hl_same (L := L) (s3.trans (s4.trans s5)))
    have c2 := (call_one (K := K) (c := .bar) (dG.lk.same (s1.trans s2)) n3 h3 (.inl rfl)).same (hl_same (L := L) (s4.trans s5))
    refine ⟨l3, _, _, rfl, dG.same S5, h5, ?_⟩
    rw [List.replicate_succ', List.flatten_append]
    exact paired_app (calls_same pc (hl_same S5)) (.cons c1 (.cons c2 .nil))
  · rintro σ' G0 ⟨lc, ts, v3, rfl, dG, hlc, pc⟩
    refine ⟨_, rfl, szr, fun t1 G1 n1 s1 h1 => ⟨szr, fun b2 G2 n2 s2 h2 => ⟨szr, fun t2 G3 n3 s3 h3 => ⟨szr, fun b3 G4 n4 s4 h4 => ⟨szr, fun t3 G5 n5 s5 h5 => ⟨szr, fun b4 G6 n6 s6 h6 => ⟨szr, fun t4 G7 n7 s7 h7 => ⟨szr, fun t5 G8 n8 s8 h8 => ⟨szr, fun l2 G9 n9 s9 h9 => ?_⟩⟩⟩⟩⟩⟩⟩⟩⟩
    have u2 := s1.trans s2
    have u3 := u2.trans s3
    have u4 := u3.trans s4
    have u5 := u4.trans s5
    have u6 := u5.trans s6
    have u7 := u6.trans s7
    have u8 := u7.trans s8
    have u9 := u8.trans s9
    have tl : ts.length = 40 := by
      rw [paired_len pc, List.length_flatten, List.map_replicate, List.sum_replicate_nat]
      rfl
    refine ⟨lc, l2, _, _, rfl, rfl, u9 _ _ hlc, h9, sz (by rw [tl]; simp only [List.length_cons, List.length_nil]; omega), fun l3 G10 n10 s10 h10 => ?_⟩
    have u10 := u9.trans s10
    have lkG := dG.lk
    have c1 := (call_one (K := K) (c := .bar) lkG n1 h1 (.inl rfl)).same (hl_same (L := L) (s2.trans (s3.trans (s4.trans (s5.trans (s6.trans (s7.trans (s8.trans (s9.trans s10)))))))))
    have c2 := (call_wr (K := K) (ws := [1, 2]) (lkG.same s1) s2 n2 h2 s3 n3 h3).same (hl_same (L := L) (s4.trans (s5.trans (s6.trans (s7.trans (s8.trans (s9.trans s10)))))))
    have c3 := (call_wr (K := K) (ws := [8]) (lkG.same u3) s4 n4 h4 s5 n5 h5).same (hl_same (L := L) (s6.trans (s7.trans (s8.trans (s9.trans s10)))))
    have c4 := (call_wr (K := K) (ws := [1]) (lkG.same u5) s6 n6 h6 s7 n7 h7).same (hl_same (L := L) (s8.trans (s9.trans s10)))
    have c5 : CallV K L G10 (.ref t5) (.ari (.int 0)) := ⟨t5, rfl, .int 0, (hl_at ((lkG.same u7).new n8)).trans (s10 _ _ (s9 _ _ h8)) |> fun e => (by
      have n5' : t5 ∉ L := (lkG.same u7).new n8
      exact (hl_at n5').trans (s10 _ _ (s9 _ _ h8))), .int 0⟩
    have pA : Paired (CallV K L G10) _ ((List.replicate 20 [Gc.wr (.int 0) two, .bar]).flatten ++ [.bar, .wr (.int 0) two, .wr (.int 0) (nOne 8), .wr (.int 0) (nOne 1), .ari (.int 0)]) := paired_app (calls_same pc (hl_same u10)) (.cons c1 (.cons c2 (.cons c3 (.cons c4 (.cons c5 .nil)))))
    have d10 := dG.same u10
    refine ⟨_, rfl, szr, fun t6 J1 m1 r1 j1 => ⟨szr, fun t7 J2 m2 r2 j2 => ⟨szr, fun l4 J3 m3 r3 j3 => ⟨l3, l4, _, _, rfl, rfl, (r1.trans (r2.trans r3)) _ _ h10, j3, sz (by rw [List.length_append, tl]; simp only [List.length_cons, List.length_nil]; omega), fun l5 J4 m4 r4 j4 => ?_⟩⟩⟩⟩
    have R4 := r1.trans (r2.trans (r3.trans r4))
    have c6 := (call_one (K := K) (c := .lose) d10.lk m1 j1 (.inr rfl)).same (hl_same (L := L) (r2.trans (r3.trans r4)))
    have c7 := (call_one (K := K) (c := .bar) (d10.lk.same r1) m2 j2 (.inl rfl)).same (hl_same (L := L) (r3.trans r4))
    have pF : Paired (CallV K L J4) _ full1 := paired_app (calls_same pA (hl_same R4)) (.cons c6 (.cons c7 .nil))
    have d11 := d10.same R4
    have nl5 : l5 ∉ L := ((d10.lk.same (r1.trans (r2.trans r3))).new m4)
    generalize hts : ts ++ [V.ref t1, V.ref t2, V.ref t3, V.ref t4, V.ref t5] ++ [V.ref t6, V.ref t7] = tf at pF j4
    refine ⟨l5, rfl, ⟨_, SqL.of j4⟩, for_list (K := K) (a := l5) (xs := tf) (fun i σ' H' => ∃ v4, σ' = [some (.ref x), some (.ref pg), some (.ref l3), v3, v4] ∧ DuoV S C R L H' x el pg (runG b0 [] (full1.take i)).1 (runG b0 [] (full1.take i)).2 ∧ H' l5 = some (.lst tf) ∧ Paired (CallV K L H') tf full1) ?_ ?_ ?_ ?_⟩
    · exact ⟨_, rfl, d11, j4, pF⟩
    · rintro i σ' G _ ⟨_, _, _, h, _⟩
      exact SqL.of h
    · rintro i y σ' G hy ⟨v4, rfl, dI, hl5, pI⟩
      obtain ⟨c, hc, t, rfl, cv⟩ := Af.paired_get pI hy
      have tk : full1.take (i + 1) = full1.take i ++ [c] := by rw [List.take_succ, hc]; rfl
      have il : i < full1.length := (List.getElem?_eq_some_iff.mp hc).1
      have ln := runG_len b0 [] (full1.take i)
      have l47 : full1.length = 47 := by decide
      refine ⟨_, rfl, _, rfl, _, rfl, ?_⟩
      refine calledU dI (by rw [List.length_take, List.length_nil] at ln; omega) (cv.same hl_in) (full1_ok c (List.mem_of_getElem? hc)) fun H' f d' => ⟨_, rfl, iteF ?_⟩
      rw [tk, runG_snoc]
      have sL := f.hl tm
      exact ⟨_, rfl, d', f _ _ (fun m => nl5 (tm _ m)) hl5, calls_same pI sL⟩
    · rintro σ' G ⟨v4, rfl, dI, hl5, pI⟩
      rw [paired_len pI, List.take_length] at dI
      have fl1 : (runG b0 [] full1).2.length = 43 := by rw [eb]; exact full1_len
      generalize (runG b0 [] full1).1 = sF at dI
      generalize (runG b0 [] full1).2 = eF at dI fl1
      clear d11 d10 pF pA c1 c2 c3 c4 c5 c6 c7 pI
      refine ⟨fun σ' H' => σ' = [some (.ref x), some (.ref pg), some (.ref l3), v3, v4], ?_, ?_⟩
      · refine ⟨_, rfl, _, rfl, L, x, el, pg, _, _, rfl, dI, by omega, fun G2 s2 => ⟨_, rfl, iteF ?_⟩⟩
        obtain ⟨dx3, fs3, hx3⟩ := (dI.same s2).st.ref
        refine ⟨_, rfl, x, dx3, fs3, rfl, hx3, L, x, el, _, _, rfl, (dI.same s2).st, _, rfl, by omega, rfl, _, rfl, iteF' ?_ rfl⟩
        rw [fl1]
        decide
      rintro _ G2 rfl
      clear dI hl5 nl5
      refine ⟨szr, fun a1 A1 n1 s1 h1 => ⟨a1, 24, [.int 0], rfl, rfl, h1, by simp, by decide, by decide, by decide, fun ca A2 s2 h2 => fun x2 dx2 hx2 hdx2 ndx2 => ?_⟩⟩
      have sm2 := s0_made (C := R) hx2 hdx2
      have okq : OkP ⟨List.replicate 24 0, 1, []⟩ := ⟨by decide, by decide, by decide, by decide, by decide, fun x hx => (by cases hx), (by show 0 ≤ 40; decide), (by show 0 ≤ 40; decide)⟩
      have h2 := rep_at 24 h2
      refine ⟨[], x2, dx2, ca, List.replicate 24 0, 1, rfl, upd_same, (fun _ m => by cases m), (by simp), sm2 _ _ h2, okq, fun H2 el ko nel lk2 st2 => ⟨rfl, ?_⟩⟩
      refine fun p np => ?_
      have s3 : Same H2 (upd H2 p (.dK [])) := same_new np
      refine ⟨szr, fun a3 H3 n3 s3' h3 => ⟨a3, 24, [.int 0], rfl, rfl, h3, by simp, by decide, by decide, by decide, fun cb H4 s4 h4 => ⟨szr, fun sl H5 n5 s5 h5 => ⟨szr, fun tr H6 n6 s6 h6 => ⟨szr, fun fl H7 n7 s7 h7 => ?_⟩⟩⟩⟩⟩
      have h4 := rep_at 24 h4
      have S7 := s3'.trans (s4.trans (s5.trans (s6.trans s7)))
      have hp7 := S7 _ _ upd_same
      refine ⟨hp7, [(.inr "plan", .ref tr), (.inr "came", .ref fl)], rfl, (by decide : 2 ≤ 15), szr, ?_⟩
      have e12 : mergeK [] [((.inr "plan" : L2.Key), V.ref tr), (.inr "came", .ref fl)] = [(.inr "plan", .ref tr), (.inr "came", .ref fl)] := rfl
      rw [e12]
      have f8 : ∀ {c : Addr} {o : HO}, H7 c = some o → (∀ r, o ≠ .dK r) → (upd H7 p (.dK [(.inr "plan", .ref tr), (.inr "came", .ref fl)])) c = some o := fun {c o} e n => by
        rw [upd_ne (fun zz => by rw [zz, hp7] at e; exact n _ (Option.some.inj e).symm)]
        exact e
      have px : PageX (upd H7 p (.dK [(.inr "plan", .ref tr), (.inr "came", .ref fl)])) (.ref p) ⟨List.replicate 24 0, 1, []⟩ [] sl fl := ⟨p, _, tr, cb, [], rfl, upd_same, rfl, rfl, f8 (s7 _ _ h6) (fun r z => by cases z), f8 (s7 _ _ (s6 _ _ (s5 _ _ h4))) (fun r z => by cases z), f8 (s7 _ _ (s6 _ _ h5)) (fun r z => by cases z), .nil, f8 h7 (fun r z => by cases z), by show 2 ≤ 10; decide⟩
      have s28 : Same H2 (upd H7 p (.dK [(.inr "plan", .ref tr), (.inr "came", .ref fl)])) := fun b o e => by
        rw [upd_ne (fun zz => by rw [zz, np] at e; cases e)]
        exact S7 _ _ (s3 _ _ e)
      have m1 : H2 sl = none := s3.free (s3'.free (s4.free n5))
      have m2 : H2 fl = none := s3.free (s3'.free (s4.free (s5.free (s6.free n7))))
      generalize upd H7 p (.dK [((.inr "plan" : L2.Key), V.ref tr), (.inr "came", .ref fl)]) = H8 at px s28 ⊢
      refine fun pg H9 n9 s9 h9 => ⟨_, _, rfl, ?_⟩
      have d9 := duo_new lk2 st2 s28 px m1 m2 n9 s9 h9 okq
      obtain ⟨L, eL⟩ : ∃ L, L = [pg] ++ ([x2, el] ++ []) := ⟨_, rfl⟩
      rw [← eL] at d9
      clear px st2 lk2 h9 n9 s9
      obtain ⟨b1, eb1⟩ : ∃ b1, b1 = begS ⟨List.replicate 24 0, 1, []⟩ := ⟨_, rfl⟩
      rw [← eb1] at d9
      have tm : ∀ z ∈ [x2, el, pg], z ∈ L := by rw [eL]; exact in3 (by simp) (by simp) (by simp)
      refine ⟨szr, fun a1 K1 n1 r1 k1 => ⟨a1, 24, [.int 1], rfl, rfl, k1, by simp, by decide, by decide, by decide, fun b1' K2 r2 k2 => ⟨szr, fun t1 K3 n3 r3 k3 => ⟨szr, fun a2 K4 n4 r4 k4 => ⟨a2, 17, [.int 2], rfl, rfl, k4, by simp, by decide, by decide, by decide, fun b2' K5 r5 k5 => ⟨szr, fun t2 K6 n6 r6 k6 => ⟨szr, fun a3 K7 n7 r7 k7 => ⟨a3, 16, [.int 2], rfl, rfl, k7, by simp, by decide, by decide, by decide, fun b3' K8 r8 k8 => ⟨szr, fun t3 K9 n9 r9 k9 => ⟨szr, fun b4' J1 m1 q1 j1 => ⟨szr, fun t4 J2 m2 q2 j2 => ⟨szr, fun l1 J3 m3 q3 j3 => ?_⟩⟩⟩⟩⟩⟩⟩⟩⟩⟩⟩⟩
      have k2 := rep_at 24 k2
      have k5 := rep_at 17 k5
      have k8 := rep_at 16 k8
      have v2 := r1.trans r2
      have v3' := v2.trans r3
      have v5 := v3'.trans (r4.trans r5)
      have v6 := v5.trans r6
      have v8 := v6.trans (r7.trans r8)
      have v9 := v8.trans r9
      have w1 := v9.trans q1
      have w2 := w1.trans q2
      have w3 := w2.trans q3
      have c1 : CallV K L J3 (.ref t1) (.wr (.int 0) (rep 24 1)) := by
        rw [rep_dvs]
        exact (call_wr' (K := K) (d9.lk.same v2) k2 r3 n3 k3).same (hl_same (L := L) (r4.trans (r5.trans (r6.trans (r7.trans (r8.trans (r9.trans (q1.trans (q2.trans q3)))))))))
      have c2 : CallV K L J3 (.ref t2) (.wr (.int 0) (rep 17 2)) := by
        rw [rep_dvs]
        exact (call_wr' (K := K) (d9.lk.same v5) k5 r6 n6 k6).same (hl_same (L := L) (r7.trans (r8.trans (r9.trans (q1.trans (q2.trans q3))))))
      have c3 : CallV K L J3 (.ref t3) (.wr (.int 0) (rep 16 2)) := by
        rw [rep_dvs]
        exact (call_wr' (K := K) (d9.lk.same v8) k8 r9 n9 k9).same (hl_same (L := L) (q1.trans (q2.trans q3)))
      have c4 : CallV K L J3 (.ref t4) (.wr (.int 3) (nOne 1)) := (call_wr (K := K) (ws := [1]) (d9.lk.same v9) q1 m1 j1 q2 m2 j2).same (hl_same (L := L) q3)
      have dA := d9.same w3
      refine ⟨_, rfl, szr, fun t5 J4 m4 q4 j4 => ⟨szr, fun l2 J5 m5 q5 j5 => ⟨l1, l2, _, _, rfl, rfl, (q4.trans q5) _ _ j3, j5, szr, fun l5 J6 m6 q6 j6 => ?_⟩⟩⟩
      have q46 := q4.trans (q5.trans q6)
      have c5 := (call_one (K := K) (c := .bar) dA.lk m4 j4 (.inl rfl)).same (hl_same (L := L) (q5.trans q6))
      have sL := hl_same (L := L) q46
      have pF : Paired (CallV K L J6) [V.ref t1, V.ref t2, V.ref t3, V.ref t4, V.ref t5] full2 := .cons (c1.same sL) (.cons (c2.same sL) (.cons (c3.same sL) (.cons (c4.same sL) (.cons c5 .nil))))
      have dB := dA.same q46
      have nl5 : l5 ∉ L := (dA.lk.same (q4.trans q5)).new m6
      have j6 : J6 l5 = some (.lst [V.ref t1, V.ref t2, V.ref t3, V.ref t4, V.ref t5]) := j6
      generalize [V.ref t1, V.ref t2, V.ref t3, V.ref t4, V.ref t5] = tf at pF j6
      refine ⟨l5, rfl, ⟨_, SqL.of j6⟩, for_list (K := K) (a := l5) (xs := tf) (fun i σ' H' => ∃ v4, σ' = [some (.ref x2), some (.ref pg), some (.ref l1), v3, v4] ∧ DuoV S C R L H' x2 el pg (runG b1 [] (full2.take i)).1 (runG b1 [] (full2.take i)).2 ∧ H' l5 = some (.lst tf) ∧ Paired (CallV K L H') tf full2) ?_ ?_ ?_ ?_⟩
      · exact ⟨_, rfl, dB, j6, pF⟩
      · rintro i σ' G _ ⟨_, _, _, h, _⟩
        exact SqL.of h
      · rintro i y σ' G hy ⟨v4, rfl, dI, hl5, pI⟩
        obtain ⟨c, hc, t, rfl, cv⟩ := Af.paired_get pI hy
        have tk : full2.take (i + 1) = full2.take i ++ [c] := by rw [List.take_succ, hc]; rfl
        have ln := runG_len b1 [] (full2.take i)
        have l5' : full2.length = 5 := by decide
        refine ⟨_, rfl, _, rfl, _, rfl, ?_⟩
        refine calledU dI (by rw [List.length_take, List.length_nil] at ln; omega) (cv.same hl_in) (full2_ok c (List.mem_of_getElem? hc)) fun H' f d' => ⟨_, rfl, iteF ?_⟩
        have ln2 := runG_len b1 [] (full2.take (i + 1))
        rw [tk, runG_snoc] at ln2
        have sL := f.hl tm
        refine ⟨_, rfl, _, rfl, L, x2, el, pg, _, _, rfl, d', by rw [List.length_append, List.length_take, List.length_nil] at ln2; simp only [List.length_cons, List.length_nil] at ln2; omega, fun H'' s'' => ⟨_, rfl, iteF ?_⟩⟩
        rw [tk, runG_snoc]
        exact ⟨_, rfl, d'.same s'', s'' _ _ (f _ _ (fun m => nl5 (tm _ m)) hl5), calls_same pI (sL.trans (hl_same s''))⟩
      · rintro σ' G ⟨v4, rfl, dI, hl5, pI⟩
        rw [paired_len pI, List.take_length] at dI
        have fl2 : (runG b1 [] full2).2.length = 3 := by rw [eb1]; exact full2_len
        generalize (runG b1 [] full2).1 = sF at dI
        generalize (runG b1 [] full2).2 = eF at dI fl2
        obtain ⟨dx3, fs3, hx3⟩ := dI.st.ref
        refine ⟨_, rfl, x2, dx3, fs3, rfl, hx3, L, x2, el, _, _, rfl, dI.st, _, rfl, by omega, rfl, ?_⟩
        rw [fl2]
        have q := k G
        rw [show true = decide (V.int ((3 : Nat) : Int) = V.int 3) by decide] at q
        exact q
end
end Af

set_option Elab.async false
set_option linter.all false
set_option maxRecDepth 100000
set_option maxHeartbeats 16000000
namespace Af
open PySem PySem.Spec L2
abbrev s_law : Stmt := top 66
abbrev N_law : List Str := ["_law_script", "_law_pen_here", "_law_turn", "_law_pages", "_law_store", "_law_again", "_law_calls", "_law_call_here", "_law_base_here", "_law_span", "_law_good", "_law_one"]
theorem sc_law : FnScope N_law ["_law_script"] (defScope s_law) := ⟨rfl, rfl, rfl, by decide +kernel, rfl, by decide +kernel, by decide +kernel⟩

theorem DuoV.fr {S C R : Addr} {L M : List Addr} {H H' : Hp} {x el pg : Addr} {s : Sv} {es : List Sv} (d : DuoV S C R L H x el pg s es) (f : Fr M H H') (lk : Lok R L H') (m : ∀ a ∈ M, a ∈ L) (nx : x ∉ M) (ne : el ∉ M) (np : pg ∉ M) : DuoV S C R L H' x el pg s es := by
  obtain ⟨xs, h, ps⟩ := d.pl
  have sL := f.hl m
  exact ⟨lk, d.st.fr f m nx ne, d.pm, d.ne, ⟨xs, f _ _ np h, L2.Paired.mapP ps fun _ _ z => z.same sL⟩, d.ok⟩
theorem gh_L {S L : List Addr} {p : Addr} {H : Hp} (h : ∀ a, a ∈ L → a ∈ S ∨ a = p) : Same (gh S p H) (hl L H) := fun a o e => by
  unfold gh at e
  by_cases m : a ∈ S
  · rw [if_pos m] at e; cases e
  · rw [if_neg m] at e
    have np : a ≠ p := fun z => by rw [z, show Af.hd p H p = none from if_pos rfl] at e; cases e
    rw [hd_ne np] at e
    rw [hl_at (fun z => (h a z).elim m np)]
    exact e
theorem clv_gc {K : PySem.W.Frag} {R : Addr} {L : List Addr} {H : Hp} {t : Addr} {n : Nat} (lk : Lok R L H) (n24 : n ≤ 24) (h : (∃ cl, ClV H t cl ∧ ClG n cl) ∨ H t = some (.tup [.str "undo"])) : ∃ c, GcV K (hl L H) t c ∧ GcG c := by
  have up : ∀ {a : Addr} {xs : List V}, H a = some (.tup xs) → hl L H a = some (.tup xs) := fun e => (hl_at (lk.tup e)).trans e
  rcases h with ⟨cl, hc, gc⟩ | h
  · cases cl with
    | wr f ws =>
      obtain ⟨b, h1, h2⟩ := hc
      obtain ⟨o1, o2, o3, o4⟩ := gc
      exact ⟨.wr (.int f) (.tuple (dvs ws)), ⟨_, _, up h1, .int f, Dx.of (.tup (up h2) (dq_ints ws))⟩, int_ok ⟨o1, by omega⟩, ints_ok (by omega) fun z hz => by have := o4 z hz; omega⟩
    | bar => exact ⟨.bar, up hc, True.intro⟩
    | lose => exact ⟨.lose, up hc, True.intro⟩
    | ari z => exact ⟨.ari (.int z), ⟨_, up hc, .int z⟩, int_ok gc⟩
  · exact ⟨.undo, up h, True.intro⟩
theorem DuoV.not {S C R : Addr} {L : List Addr} {H : Hp} {x el pg : Addr} {s : Sv} {es : List Sv} (d : DuoV S C R L H x el pg s es) : NoT [x, el, pg] H := by
  obtain ⟨dx, fs, hx⟩ := d.st.ref
  obtain ⟨vs, he⟩ := d.st.lst
  obtain ⟨xs, hp, _⟩ := d.pl
  exact in3 ⟨_, hx, fun xs e => by cases e⟩ ⟨_, he, fun xs e => by cases e⟩ ⟨_, hp, fun xs e => by cases e⟩
theorem wd_of_idx {d : PyData} (h : idxD 25 d = false) : widthD d = false := by
  cases d with
  | int i =>
    have h : (decide (0 ≤ i) && decide (i < 25)) = false := h
    show (decide (1 ≤ i) && decide (i ≤ 24)) = false
    rw [Bool.and_eq_false_iff] at h ⊢
    rcases h with h | h
    · exact .inl (decide_eq_false (by have := of_decide_eq_false h; omega))
    · exact .inr (decide_eq_false (by have := of_decide_eq_false h; omega))
  | _ => rfl
theorem wd_pos {z : Int} (h : idxD 25 (.int z) = true) (p : 0 < z) : widthD (.int z) = true := by
  have h : (decide (0 ≤ z) && decide (z < 25)) = true := h
  show (decide (1 ≤ z) && decide (z ≤ 24)) = true
  rw [Bool.and_eq_true] at h ⊢
  exact ⟨decide_eq_true (by omega), decide_eq_true (by have := of_decide_eq_true h.2; omega)⟩
theorem wd_neg {z : Int} (p : ¬ 0 < z) : widthD (.int z) = false := by
  show (decide (1 ≤ z) && decide (z ≤ 24)) = false
  rw [Bool.and_eq_false_iff]
  exact .inl (decide_eq_false (by omega))
theorem mq_tup {ds : List PyData} {d : PyData} (ne : ds ≠ []) (l : ds.length ≤ 24) (w : widthD d = true) : madeQ (.tuple ds) d = ds.all (idxD 8) := by
  unfold madeQ contentD
  rw [w, Bool.and_true]
  show ((!ds.isEmpty && ds.all (idxD 8)) && decide (ds.length ≤ 24)) = _
  rw [decide_eq_true l, Bool.and_true]
  cases ds with
  | nil => exact absurd rfl ne
  | cons _ _ => rfl
theorem dx_rep {K : PySem.W.Frag} {H : Hp} {a : Addr} {z : Int} (n : Nat) (h : H a = some (.tup (ivs (List.replicate n z)))) : Dx K H (.ref a) (.tuple (dvs (List.replicate n z))) := Dx.of (.tup h (dq_ints _))
section
variable {P : Program} {w : World} {K : PySem.W.Frag} {mg : Str → Option Value} {base : Heap}
theorem ok_law {f S C R fI : Addr} {fd fdI : FuncData} (F : Fun K "law" "law" s_law f fd) (T : Txt mg) (TR : ObjC K mg "Store" R RN) (c_l_pen : Cal P w K mg base 1 "_law_pen" ["_law_script"] (sp_pen K))
    (M_Store : Mk K R fI) (G_Store : FnOk P w K mg base CX0 8 fI fdI ["self", "base", "width"] (sp_rinit S C R)) (b_Store : Binds K fdI ["self", "base", "width"] []) (c_l_page : Cal P w K mg base 3 "_law_page" ["_law_pen_here", "_law_most"] sp_page)
    (c_l_call : Cal P w K mg base 4 "_law_call" ["_law_pen_here", "_law_page_here"] (sp_call R)) (c_l_called : CalG P w K mg base 13 "_law_called" ["_law_store", "_law_pages", "_law_call_here"] (sp_calledU K S C R)) (c_l_same : CalG P w K mg base 8 "_law_same" ["_law_store", "_law_pages"] (sp_same S C R))
    (c_l_odd : Cal P w K mg base 3 "_law_odd" ["_law_pen_here"] (sp_odd K)) (c_l_is_below : Cal P w K mg base 1 "_law_is_below" ["_law_thing", "_law_under"] (sp_is_index K)) (c_l_is_made : Cal P w K mg base 10 "_law_is_made" ["_law_base_here", "_law_span"] (sp_is_made K))
    (c_l_full_right : CalG P w K mg base 14 "_law_full_right" [] (sp_full K)) : FnG P w K mg base 15 f fd ["_law_script"] (sp_law K) := by
  refine okG F sc_law (fun vs H Q E h => ?_) (fun cdv A outer s H vs Q E hr hg h => ?_)
  · obtain ⟨_, _, rfl, _⟩ := h
    rfl
  obtain ⟨a, ns, rfl, ha, k⟩ := h
  refine ⟨_, (pss_cons (ps_set (i := 1) sc_law.nd rfl (Or.inl rfl) (pe_cal c_l_pen hr (pa_cons (pv 0) pa_nil)))
    (pss_cons (ps_for PassesOwn.never rfl (pi_range1 rfl T.range (pa_cons pe_int pa_nil)) (pg_name (i := 2) sc_law.nd rfl (Or.inl rfl))
      (pss_cons (ps_set (i := 3) sc_law.nd rfl (Or.inl rfl) (pe_lst' (pa_cons (pe_cal c_l_page hr (pa_cons (pv 1) (pa_cons pe_int pa_nil))) pa_nil)))
    (pss_cons (ps_set (i := 4) sc_law.nd rfl (Or.inl rfl) (pe_make M_Store G_Store (hr.mono (by decide)) rfl TR.mgC b_Store .nil pass0 (pa_cons (pe_ix ix_seq' (pe_dget hr.u1 (pe_ix ix_seq' (pv 3) pe_int (fun _ _ => rfl)) pe_str (fun _ _ => rfl)) pe_int (fun _ _ => rfl)) (pa_cons (pe_ix ix_seq' (pe_dget hr.u1 (pe_ix ix_seq' (pv 3) pe_int (fun _ _ => rfl)) pe_str (fun _ _ => rfl)) pe_int (fun _ _ => rfl)) pa_nil))))
    (pss_cons (ps_if (pt_not (pt_val (pe_calG c_l_called hr hg (pa_cons (pv 4) (pa_cons (pv 3) (pa_cons (pe_tup' (pa_cons pe_str pa_nil)) pa_nil))))))
      (pss_one (ps_ret pe_bl))
      pss_nil)
    (pss_one (ps_for PassesOwn.never rfl (pi_range1 rfl T.range (pa_cons pe_int pa_nil)) (pg_name (i := 5) sc_law.nd rfl (Or.inl rfl))
      (pss_cons (ps_set (i := 6) sc_law.nd rfl (Or.inl rfl) (pe_lst' (pa_cons (pe_tup' (pa_cons pe_str (pa_cons (pe_cal c_l_odd hr (pa_cons (pv 1) pa_nil)) (pa_cons (pe_cal c_l_odd hr (pa_cons (pv 1) pa_nil)) pa_nil)))) (pa_cons (pe_tup' (pa_cons pe_str (pa_cons pe_int (pa_cons (pe_cal c_l_odd hr (pa_cons (pv 1) pa_nil)) pa_nil)))) (pa_cons (pe_tup' (pa_cons pe_str (pa_cons (pe_cal c_l_odd hr (pa_cons (pv 1) pa_nil)) pa_nil))) pa_nil)))))
    (pss_cons (ps_for PassesOwn.never rfl (pi_list (pe_op op_cat' (pv 6) (pe_lst' (pa_cons (pe_cal c_l_call hr (pa_cons (pv 1) (pa_cons (pe_ix ix_seq' (pv 3) (pe_un un_neg pe_int) (fun _ _ => rfl)) pa_nil))) pa_nil)))) (pg_name (i := 7) sc_law.nd rfl (Or.inl rfl))
      (pss_one (ps_if (PW.pt (pw_or (pt_not (pt_val (pe_calG c_l_called hr hg (pa_cons (pv 4) (pa_cons (pv 3) (pa_cons (pv 7) pa_nil)))))) (pw_or1 (pt_not (pt_val (pe_calG c_l_same hr hg (pa_cons (pv 4) (pa_cons (pv 3) pa_nil))))))))
      (pss_one (ps_ret pe_bl))
      pss_nil)))
    (pss_cons (ps_par (i := 8) (j := 9) rfl sc_law.nd rfl rfl (by decide) rfl rfl (pa_cons (pe_cal c_l_odd hr (pa_cons (pv 1) pa_nil)) (pa_cons (pe_cal c_l_odd hr (pa_cons (pv 1) pa_nil)) pa_nil)) (by rfl))
    (pss_cons (ps_cut (ps_set (i := 10) sc_law.nd rfl (Or.inl rfl) (pe_and (pe_callB call_isi' (by rfl) T.isinstance (by decide +kernel) (pa_cons (pv 8) (pa_cons (pe_bltn (v := .ty "tuple") (by rfl) T.tuple (by decide +kernel) rfl) pa_nil))) (pe_and (pe_cmpR (op_neD hr.units) (pv 8) (pe_tup' pa_nil) (nomark _)) (pe_and (pe_cal c_l_is_below hr (pa_cons (pv 9) (pa_cons pe_int pa_nil))) (pe_one (pe_cmpR op_gt (pv 9) pe_int (nomark _))))))))
    (pss_cons (ps_cut (ps_set (i := 10) sc_law.nd rfl (Or.inl rfl) (pe_and (pv 10) (pe_one (pe_callB (cr_all rfl) (by rfl) T.all (by decide +kernel) (pa_cons (pe_lc (own := [("_law_one", 11)]) (g := (gName 11)) (tt := tYes) rfl sc_law.nd (pi_tup (pv 8)) (blkOk_by (own := [("_law_one", 11)]) (N := N_law) (sc := defScope s_law) (by decide +kernel)) (fun _ _ _ _ _ => pg_name (i := 11) sc_law.nd rfl (Or.inl rfl)) (fun _ _ _ _ _ => pts_nil) (fun _ _ _ _ _ => (pe_cal c_l_is_below hr (pa_cons (pv 11) (pa_cons pe_int pa_nil))))) pa_nil))))))
    (pss_one (ps_if (pt_cmpR op_ne (pe_cal c_l_is_made hr (pa_cons (pv 8) (pa_cons (pv 9) pa_nil))) (pe_ifExp (pt_val (pv 10)) pe_str pe_str) (nomark _))
      (pss_one (ps_ret pe_bl))
      pss_nil)))))))))))))
    (pss_cons (ps_if (pt_cmpR (op_neD hr.units) (pe_lst' (pa_cons (pe_cal c_l_is_made hr (pa_cons (pe_op op_repT' (pe_tup' (pa_cons pe_int pa_nil)) pe_int) (pa_cons pe_int pa_nil))) (pa_cons (pe_cal c_l_is_made hr (pa_cons (pe_op op_repT' (pe_tup' (pa_cons pe_int pa_nil)) pe_int) (pa_cons pe_int pa_nil))) (pa_cons (pe_cal c_l_is_made hr (pa_cons (pe_tup' (pa_cons pe_int pa_nil)) (pa_cons pe_int pa_nil))) pa_nil)))) (pe_lst' (pa_cons pe_str (pa_cons pe_str (pa_cons pe_str pa_nil)))) (nomark _))
      (pss_one (ps_ret pe_bl))
      pss_nil)
    (pss_one (ps_ret (pe_calG0 c_l_full_right hr hg)))))), ?_⟩
  refine ⟨_, rfl, a, ns, rfl, ha, fun q H1 s1 nqp nqc pn1 => ?_⟩
  refine ⟨3, rfl, by decide, by decide, for_range (n := 3) (lo := 0) (fun i σ' H' => ∃ v2 v3 v4 v5 v6 v7 v8 v9 v10 v11, σ' = [some (.ref a), some (.ref q.p), v2, v3, v4, v5, v6, v7, v8, v9, v10, v11] ∧ Pen q (2000 * i) H') ?_ ?_ ?_⟩
  · exact ⟨_, _, _, _, _, _, _, _, _, _, rfl, pn1⟩
  · rintro i σ' H2 hi ⟨v2, v3, v4, v5, v6, v7, v8, v9, v10, v11, rfl, pn2⟩
    refine ⟨_, rfl, q, _, 5, rfl, pn2, by omega, by decide, by decide, fun p cs wd sl fl H3 g3 np nsl nfl px okp => ⟨szr, fun pg H4 n4 s4 h4 => ?_⟩⟩
    have pn3 := g3.pen
    have pn4 := pn3.same s4
    have px4 := px.same s4
    obtain ⟨p', rows, tr', ca', xs0, ep, hp4, vp, vc, htr, hca, hsa, hst, hf, r10⟩ := id px4
    cases ep
    have gpl : ∀ {G : Hp}, Same H4 G → DGet G p (.str "plan") (some (.ref tr')) := fun s => .inl ⟨rows, .inr "plan", .inl (s _ _ hp4), rfl, vp.symm⟩
    refine ⟨_, rfl, pg, _, 0, _, rfl, rfl, .inl h4, rfl, p, .ref tr', rfl, gpl (Same.refl _), tr', _, 0, _, rfl, rfl, .inr htr, rfl, ?_⟩
    refine ⟨_, rfl, pg, _, 0, _, rfl, rfl, .inl h4, rfl, p, .ref tr', rfl, gpl (Same.refl _), tr', _, 1, _, rfl, rfl, .inr htr, rfl, fun x dx hx hdx ndx => ?_⟩
    have sm := s0_made (C := R) hx hdx
    have lk4 : Lok R [q.p, pg] H4 := in2 (.inl pn4.lst) (.inl ⟨_, h4⟩)
    refine ⟨[q.p, pg], x, dx, ca', cs, wd, rfl, upd_same, lk4.same sm, lk4.new hx, sm _ _ hca, okp, fun H5 el ko nel lk5 st5 => ⟨rfl, ?_⟩⟩
    have S5 : Same H4 H5 := fun b u e => ko b u (ne_of_none e hx) (sm b u e)
    have nel4 := sm.free nel
    obtain ⟨p', rows', tr2, ca2, xs2, ep2, -, -, -, -, -, hsa3, -, hf3, -⟩ := id px
    have offL : ∀ {c : Addr} {o : HO}, H3 c = some o → H2 c = none → c ∉ [x, el] ++ [q.p, pg] := fun {c o} e n m => by
      simp only [List.cons_append, List.nil_append, List.mem_cons, List.not_mem_nil, or_false] at m
      rcases m with rfl | rfl | rfl | rfl
      · rw [s4 _ _ e] at hx; cases hx
      · rw [s4 _ _ e] at nel4; cases nel4
      · obtain ⟨l0, hl0⟩ := pn2.lst
        rw [n] at hl0; cases hl0
      · rw [n4] at e; cases e
    have qpg : q.p ≠ pg := fun e => by
      obtain ⟨l0, hl0⟩ := pn3.lst
      rw [← e, hl0] at n4
      cases n4
    have qel : q.p ≠ el := fun e => by
      obtain ⟨l0, hl0⟩ := pn4.lst
      rw [← e, hl0] at nel4
      cases nel4
    have pgel : pg ≠ el := fun e => by rw [← e, h4] at nel4; cases nel4
    have d5 : DuoV S C R ([x, el] ++ [q.p, pg]) H5 x el pg (begS ⟨cs, wd, []⟩) [] := ⟨lk5, st5, by simp, pgel, ⟨_, S5 _ _ h4, .cons (((px4.same S5).hl lk5 (offL hsa3 nsl) (offL hf3 nfl)).v) .nil⟩, fun u m => by rw [List.mem_singleton.mp m]; exact pg_beg okp⟩
    have pn5 := (pn4.same S5).mono (m' := 2000 * i + 50) (by omega)
    have low : ∀ {c : Addr}, H4 c = none → H2 c = none := fun {c} e => g3.none pn2 (s4.free e)
    have fr3 : ∀ z ∈ [x, el, pg], H2 z = none := in3 (low hx) (low nel4) (g3.none pn2 n4)
    obtain ⟨L, eL⟩ : ∃ L, L = [x, el] ++ [q.p, pg] := ⟨_, rfl⟩
    rw [← eL] at d5
    have qm : q.p ∈ L := by rw [eL]; simp
    have tm : ∀ z ∈ [x, el, pg], z ∈ L := by rw [eL]; exact in3 (by simp) (by simp) (by simp)
    have Ls : ∀ z, z ∈ L → z ∈ [x, el, pg] ∨ z = q.p := fun z m => by
      rw [eL] at m
      simp only [List.cons_append, List.nil_append, List.mem_cons, List.not_mem_nil, or_false] at m ⊢
      rcases m with m | m | m | m <;> simp [m]
    have qs : q.p ∉ [x, el, pg] := fun m => by
      obtain ⟨l0, hl0⟩ := pn2.lst
      rw [fr3 _ m] at hl0
      cases hl0
    clear px4 px htr hca hsa hst hf hp4 gpl st5 lk5 lk4 sm ko
    refine ⟨_, rfl, _, rfl, szr, fun t G1 n1 s1' h1 => ?_⟩
    refine calledU (c := .undo) (d5.same s1') (by decide) h1 True.intro fun H' f d' => ⟨_, rfl, iteF ?_⟩
    have pn6 := (pn5.same s1').fr f pn2 fr3
    have d6 : ∃ sv es, DuoV S C R L H' x el pg sv es ∧ es.length ≤ 0 := ⟨_, _, d', Nat.le_refl _⟩
    clear d' d5 pn5 f h1 n1 s1'
    obtain ⟨sv6, es6, d6, l6⟩ := d6
    generalize hG : H' = G6 at d6 pn6
    clear hG H'
    refine ⟨14, rfl, by decide, by decide, for_range (n := 14) (lo := 0) (fun j σ' H' => ∃ w5 w6 w7 w8 w9 w10 w11 sv es, σ' = [some (.ref a), some (.ref q.p), some (.int (0 + (i : Int))), some (.ref pg), some (.ref x), w5, w6, w7, w8, w9, w10, w11] ∧ Pen q (2000 * i + 60 + 60 * j) H' ∧ DuoV S C R L H' x el pg sv es ∧ es.length ≤ 4 * j) ?_ ?_ ?_⟩
    · exact ⟨_, _, _, _, _, _, _, sv6, es6, rfl, pn6.mono (by omega), d6, by omega⟩
    · rintro j σ' A0 hj ⟨w5, w6, w7, w8, w9, w10, w11, sv, es, rfl, pnA, dA, leA⟩
      have go : ∀ {m : Nat} {G G' : Hp}, Go q m G G' → Same (hl L G) (hl L G') := fun g => (Fr.kp g.kp).hl (fun z m => by rw [List.mem_singleton.mp m]; exact qm)
      have lst : ∀ {m : Nat} {G : Hp} {a : Addr} (p : Pen q m G), G a = none → a ≠ q.p := fun p n e => by
        obtain ⟨l0, hl0⟩ := p.lst
        rw [e, hl0] at n; cases n
      -- the three calls with odd things
      refine ⟨_, rfl, q, _, _, rfl, pnA, by omega, dA.not, qs, fun u1 e1 A1 g1 o1 x1 => ?_⟩
      have dA1 := dA.go pnA g1 qm qel qpg
      have pnA1 := g1.pen
      refine ⟨_, rfl, q, _, _, rfl, pnA1, by omega, dA1.not, qs, fun u2 e2 A2 g2 o2 x2 => ⟨szr, fun t1 A3 n3 s3 h3 => ?_⟩⟩
      have dA2 := dA1.go pnA1 g2 qm qel qpg
      have pnA2 := g2.pen
      have x1L := Dx.same (go g2) (Dx.same (gh_L Ls) x1)
      have x2L := Dx.same (gh_L Ls) x2
      have c1 : CallV K L A3 (.ref t1) (.wr e1 e2) := ⟨t1, rfl, u1, u2, (hl_at (dA2.lk.new n3)).trans h3, Dx.same (hl_same s3) x1L, Dx.same (hl_same s3) x2L⟩
      have dA3 := dA2.same s3
      have pnA3 := pnA2.same s3
      refine ⟨_, rfl, q, _, _, rfl, pnA3, by omega, dA3.not, qs, fun u3 e3 A4 g4 o3 x3 => ⟨szr, fun t2 A5 n5 s5 h5 => ?_⟩⟩
      have dA4 := dA3.go pnA3 g4 qm qel qpg
      have pnA4 := g4.pen
      have c2 : CallV K L A5 (.ref t2) (.wr (.int 0) e3) := ⟨t2, rfl, .int 0, u3, (hl_at (dA4.lk.new n5)).trans h5, .int 0, Dx.same (hl_same s5) (Dx.same (gh_L Ls) x3)⟩
      have dA5 := dA4.same s5
      have pnA5 := pnA4.same s5
      refine ⟨_, rfl, q, _, _, rfl, pnA5, by omega, dA5.not, qs, fun u4 e4 A6 g6 o4 x4 => ⟨szr, fun t3 A7 n7 s7 h7 => ⟨szr, fun l1 A8 n8 s8 h8 => ?_⟩⟩⟩
      have dA6 := dA5.go pnA5 g6 qm qel qpg
      have pnA6 := g6.pen
      have c3 : CallV K L A7 (.ref t3) (.ari e4) := ⟨t3, rfl, u4, (hl_at (dA6.lk.new n7)).trans h7, Dx.same (hl_same s7) (Dx.same (gh_L Ls) x4)⟩
      have dA8 := (dA6.same s7).same s8
      have pnA8 := (pnA6.same s7).same s8
      have q1 : Same (hl L A3) (hl L A8) := (go g4).trans ((hl_same s5).trans ((go g6).trans (hl_same (s7.trans s8))))
      have q2 : Same (hl L A5) (hl L A8) := (go g6).trans (hl_same (s7.trans s8))
      have pC : Paired (CallV K L A8) [V.ref t1, V.ref t2, V.ref t3] [Gc.wr e1 e2, .wr (.int 0) e3, .ari e4] := .cons (c1.same q1) (.cons (c2.same q2) (.cons (c3.same (hl_same s8)) .nil))
      have gC : ∀ c ∈ [Gc.wr e1 e2, .wr (.int 0) e3, .ari e4], GcG c := fun c m => by
        simp only [List.mem_cons, List.not_mem_nil, or_false] at m
        rcases m with rfl | rfl | rfl
        · exact ⟨o1, o2⟩
        · exact ⟨int_ok (by decide), o3⟩
        · exact o4
      clear c1 c2 c3 q1 q2 x1L x2L x1 x2 x3 x4 dA1 dA2 dA3 dA4 dA5 dA6
      -- the drawn call
      obtain ⟨us, u, hpg8, hu8, ul8⟩ := dA8.last
      have gsv := dA8.ok sv (List.mem_append.mpr (.inr (List.mem_singleton.mpr rfl)))
      have l1q : l1 ≠ q.p := lst (pnA6.same s7) n8
      refine ⟨_, rfl, _, rfl, _, rfl, _, rfl, pg, _, -1, _, rfl, rfl, .inl hpg8, at_end, q, _, L, u, sv, rfl, pnA8, by omega, dA8.lk, qm, hu8, gsv, fun t4 B1 b1 hcl => ⟨szr, fun l2 B2 m2 r2 k2 => ⟨l1, l2, _, _, rfl, rfl, r2 _ _ (b1.kp.lst l1q h8), k2, szr, fun l3 B3 m3 r3 k3 => ?_⟩⟩⟩
      have dB1 := dA8.go pnA8 b1 qm qel qpg
      obtain ⟨c4, gv4, gg4⟩ := clv_gc (K := K) dB1.lk gsv.pl.c24 hcl
      have R3 := r2.trans r3
      have dB3 := dB1.same R3
      have pnB3 := b1.pen.same R3
      have pD : Paired (CallV K L B3) [V.ref t1, V.ref t2, V.ref t3, V.ref t4] ([Gc.wr e1 e2, .wr (.int 0) e3, .ari e4] ++ [c4]) := paired_app (calls_same pC ((go b1).trans (hl_same R3))) (.cons ⟨t4, rfl, gv4.same (hl_same R3)⟩ .nil)
      have gD : ∀ c ∈ [Gc.wr e1 e2, .wr (.int 0) e3, .ari e4] ++ [c4], GcG c := fun c m => by
        rcases List.mem_append.mp m with m | m
        · exact gC c m
        · rw [List.mem_singleton.mp m]; exact gg4
      have nl3 : l3 ∉ L := (dB1.lk.same r2).new m3
      have k3 : B3 l3 = some (.lst [V.ref t1, V.ref t2, V.ref t3, V.ref t4]) := k3
      have lD : ([Gc.wr e1 e2, .wr (.int 0) e3, .ari e4] ++ [c4]).length = 4 := rfl
      generalize [Gc.wr e1 e2, .wr (.int 0) e3, .ari e4] ++ [c4] = cs at pD gD lD
      generalize [V.ref t1, V.ref t2, V.ref t3, V.ref t4] = ts at pD k3
      clear pC gC hcl gv4 gg4 dB1 dA8 hu8
      refine ⟨l3, rfl, ⟨_, SqL.of k3⟩, for_list (K := K) (a := l3) (xs := ts) (fun n σ' H' => ∃ w7 sv es, σ' = [some (.ref a), some (.ref q.p), some (.int (0 + (i : Int))), some (.ref pg), some (.ref x), some (.int (0 + (j : Int))), some (.ref l1), w7, w8, w9, w10, w11] ∧ Pen q (2000 * i + 60 + 60 * j + 20) H' ∧ DuoV S C R L H' x el pg sv es ∧ es.length ≤ 4 * j + n ∧ H' l3 = some (.lst ts) ∧ Paired (CallV K L H') ts cs) ?_ ?_ ?_ ?_⟩
      · exact ⟨_, sv, es, rfl, pnB3.mono (by omega), dB3, by omega, k3, pD⟩
      · rintro n σ' G _ ⟨_, _, _, _, _, _, _, h, _⟩
        exact SqL.of h
      · rintro n y σ' G hy ⟨w7, sv, es, rfl, pnG, dG, leG, hl3, pG⟩
        obtain ⟨c, hc, t, rfl, cv⟩ := Af.paired_get pG hy
        have nl : n < cs.length := (List.getElem?_eq_some_iff.mp hc).1
        refine ⟨_, rfl, _, rfl, _, rfl, ?_⟩
        refine calledU dG (by omega) (cv.same hl_in) (gD c (List.mem_of_getElem? hc)) fun H' f d' => ⟨_, rfl, iteF ?_⟩
        have ln := outG_len sv es c
        refine ⟨_, rfl, _, rfl, L, x, el, pg, _, _, rfl, d', by omega, fun H'' s'' => ⟨_, rfl, iteF ?_⟩⟩
        exact ⟨_, _, _, rfl, (pnG.fr f pn2 fr3).same s'', d'.same s'', by omega, s'' _ _ (f _ _ (fun m => nl3 (tm _ m)) hl3), calls_same pG ((f.hl tm).trans (hl_same s''))⟩
      · rintro σ' G ⟨w7, sv, es, rfl, pnG, dG, leG, hl3, pG⟩
        have tl : ts.length = 4 := (paired_len pG).trans lD
        rw [tl] at leG
        clear pG hl3 nl3 pD gD k3
        refine ⟨_, rfl, q, _, _, rfl, pnG, by omega, dG.not, qs, fun u5 e5 C1 g1 o5 x5 => ?_⟩
        have dC1 := dG.go pnG g1 qm qel qpg
        have pnC1 := g1.pen
        refine ⟨_, rfl, q, _, _, rfl, pnC1, by omega, dC1.not, qs, fun u6 e6 C2 g2 o6 x6 => ⟨_, _, rfl, ?_⟩⟩
        have dC2 := dC1.go pnC1 g2 qm qel qpg
        have pnC2 := g2.pen
        have y5 : Dx K C2 u5 e5 := Dx.same gh_in (Dx.same (gh_go g2) x5)
        have y6 : Dx K C2 u6 e6 := Dx.same gh_in x6
        refine ⟨fun σ' H' => ∃ gd, σ' = [some (.ref a), some (.ref q.p), some (.int (0 + (i : Int))), some (.ref pg), some (.ref x), some (.int (0 + (j : Int))), some (.ref l1), w7, some u5, some u6, some (.bl gd), w11] ∧ Same C2 H' ∧ (gd = true → ∃ a ds, u5 = .ref a ∧ e5 = .tuple ds ∧ ds ≠ [] ∧ widthD e6 = true) ∧ (gd = false → madeQ e5 e6 = false), ?_, ?_⟩
        · have l5 : lenD e5 ≤ 24 := o5.1.l24
          obtain ⟨ty6, t6⟩ := dx_ty y6
          rcases dx_tup_or y5 with ⟨a5, xs, ds, rfl, ha, rfl, dxs⟩ | ⟨m, tm, nt, nd⟩
          · have tt : Ty K C2 (.ref a5) "tuple" := ⟨.tup ha, by decide, fun b o u z q => by cases z; rw [ha] at q; cases q⟩
            refine ⟨_, rfl, .ref a5, "tuple", "tuple", rfl, tt, by decide, _, rfl, ?_⟩
            rw [show isB "tuple" "tuple" = true by decide]
            have shd := o5.2 ds rfl
            refine iteT ⟨_, rfl, szr, fun t0 H1 n1 s1 h1' => ⟨.tuple ds, .tuple [], .tup (SqT.of (s1 _ _ ha)) (DxAll.dp (DxAll.same s1 dxs) ?_), .tup (SqT.of h1') .nil, shd, rfl, _, rfl, ?_⟩⟩
            · have := PyData.hasDict_of_canLay _ (PySem.SeqAt.canLay_of_shaped shd)
              simpa only [PyData.hasDict] using this
            · have y6' := Dx.same s1 y6
              obtain ⟨ty6, t6⟩ := dx_ty y6'
              cases ds with
              | nil => exact iteF ⟨false, rfl, s1, (fun e => by cases e), fun _ => rfl⟩
              | cons d0 ds =>
                refine iteT ⟨_, rfl, _, _, ty6, rfl, t6, ?_⟩
                rw [dx_idx y6']
                cases c1 : idxD 25 e6 with
                | false =>
                  refine ⟨_, rfl, iteF ⟨false, rfl, s1, (fun e => by cases e), fun _ => ?_⟩⟩
                  have w0 : widthD e6 = false := wd_of_idx c1
                  unfold madeQ
                  rw [w0, Bool.and_false]
                | true =>
                  have e6e := idx_d c1
                  have u6e := (dx_int y6' c1).1
                  generalize intD e6 = z at e6e u6e
                  subst e6e u6e
                  refine ⟨_, rfl, iteT ⟨_, rfl, _, _, rfl, rfl, decide (0 < z), rfl, s1, fun e => ⟨a5, d0 :: ds, rfl, rfl, by simp, ?_⟩, fun e => ?_⟩⟩
                  · exact wd_pos c1 (of_decide_eq_true e)
                  · have w0 : widthD (.int z) = false := wd_neg (of_decide_eq_false e)
                    unfold madeQ
                    rw [w0, Bool.and_false]
          · refine ⟨_, rfl, u5, m, "tuple", rfl, tm, by decide, _, rfl, ?_⟩
            rw [nt]
            refine iteF ⟨false, rfl, Same.refl _, (fun e => by cases e), fun _ => ?_⟩
            cases e5 with
            | tuple ds => exact absurd rfl (nd ds)
            | _ => rfl
        rintro σ' C3 ⟨gd, rfl, s3, gT, gF⟩
        refine ⟨fun σ' H' => ∃ w11, σ' = [some (.ref a), some (.ref q.p), some (.int (0 + (i : Int))), some (.ref pg), some (.ref x), some (.int (0 + (j : Int))), some (.ref l1), w7, some u5, some u6, some (.bl (madeQ e5 e6)), w11] ∧ Same C2 H', ?_, ?_⟩
        · cases gd with
          | false =>
            rw [gF rfl]
            exact ⟨_, rfl, _, rfl, iteF ⟨_, rfl, s3⟩⟩
          | true =>
            obtain ⟨a5, ds, rfl, rfl, dne, w6⟩ := gT rfl
            refine ⟨_, rfl, _, rfl, iteT ?_⟩
            have ld : ds.length ≤ 24 := o5.1.l24
            rw [mq_tup dne ld w6]
            cases Dx.same s3 y5 with
            | @tup _ xs _ hb dxs =>
            refine ⟨_, rfl, a5, rfl, ⟨_, SqT.of hb⟩, fun D hD => lc_tup (K := K) (a := a5) (xs := xs) (fun i H' => Same C3 H' ∧ H' D = some (.lst (((ds.take i).map (idxD 8)).map V.bl))) ?_ ?_ ?_ ?_⟩
            · exact ⟨same_new hD, upd_same⟩
            · rintro i H' _ ⟨s2, _⟩
              exact SqT.of (s2 _ _ hb)
            · rintro i y H2 hy ⟨s2, h2'⟩
              obtain ⟨d, hd, dy⟩ := (DxAll.same s2 dxs).at hy
              obtain ⟨ny, tyy⟩ := dx_ty dy
              have il : i < ds.length := (List.getElem?_eq_some_iff.mp hd).1
              refine ⟨rfl, _, rfl, _, _, ny, rfl, tyy, ?_⟩
              rw [dx_idx dy]
              refine ⟨_, h2', szl (by rw [List.length_map, List.length_map, List.length_take]; omega), same_mut s2 hD, ?_⟩
              rw [upd_same, List.take_succ, hd, List.map_append, List.map_append]
              rfl
            · rintro H2 ⟨s2, h2'⟩
              rw [dxs.len, List.take_length] at h2'
              refine ⟨D, ds.map (idxD 8), rfl, SqL.of h2', ?_⟩
              rw [show (ds.map (idxD 8)).all id = ds.all (idxD 8) by rw [List.all_map]; rfl]
              exact ⟨_, rfl, s3.trans s2⟩
        rintro σ' C4 ⟨w11, rfl, s4⟩
        have z5 := Dx.same s4 y5
        have z6 := Dx.same s4 y6
        refine ⟨_, rfl, _, rfl, u5, u6, e5, e6, rfl, z5, z6, o5.1.wd, fun H' s' => ?_⟩
        have pn9 := ((pnC2.same s4).same s').mono (m' := 2000 * i + 60 + 60 * (j + 1)) (by omega)
        have d9 := (dC2.same s4).same s'
        have le9 : es.length ≤ 4 * (j + 1) := by omega
        cases qq : madeQ e5 e6 with
        | true =>
          exact ⟨_, rfl, _, rfl, iteT ⟨rfl, _, rfl, ⟨_, _, _, _, _, _, _, sv, es, rfl, pn9, d9, le9⟩⟩⟩
        | false =>
          exact ⟨_, rfl, _, rfl, iteF ⟨rfl, _, rfl, ⟨_, _, _, _, _, _, _, sv, es, rfl, pn9, d9, le9⟩⟩⟩
    · rintro σ' A0 ⟨w5, w6, w7, w8, w9, w10, w11, sv, es, rfl, pnA, dA, leA⟩
      exact ⟨_, _, _, _, _, _, _, _, _, _, rfl, pnA.mono (by omega)⟩
  · rintro σ G ⟨v2, v3, v4, v5, v6, v7, v8, v9, v10, v11, rfl, pnF⟩
    refine ⟨szr, fun a1 G1 n1 s1 h1 => ⟨a1, 24, [.int 0], rfl, rfl, h1, by simp, by decide, by decide, by decide, fun c1 J1 t1 j1 => ?_⟩⟩
    have j1 := rep_at 24 j1
    refine ⟨.ref c1, .int 24, _, _, rfl, dx_rep 24 j1, .int 24, wd_tup (by decide), fun J2 t2 => ?_⟩
    refine ⟨szr, fun a3 G3 n3 s3 h3 => ⟨a3, 25, [.int 0], rfl, rfl, h3, by simp, by decide, by decide, by decide, fun c3 J3 t3 j3 => ?_⟩⟩
    have j3 := rep_at 25 j3
    refine ⟨.ref c3, .int 1, _, _, rfl, dx_rep 25 j3, .int 1, wd_tup (by decide), fun J4 t4 => ?_⟩
    refine ⟨szr, fun a5 G5 n5 s5 h5 => ⟨.ref a5, .int 25, _, _, rfl, dx_rep (z := 0) 1 h5, .int 25, wd_tup (by decide), fun J6 t6 => ?_⟩⟩
    rw [show madeQ (.tuple (dvs (List.replicate 24 0))) (.int 24) = true by decide, show madeQ (.tuple (dvs (List.replicate 25 0))) (.int 1) = false by decide, show madeQ (.tuple (dvs (List.replicate 1 0))) (.int 25) = false by decide]
    refine ⟨szr, fun l1 L1 m1 r1 q1 => ⟨szr, fun l2 L2 m2 r2 q2 => ?_⟩⟩
    refine ⟨.list [.str "", .str "plan", .str "plan"], .list [.str "", .str "plan", .str "plan"], .lst (SqL.of (r2 _ _ q1)) (.cons (.str _) (.cons (.str _) (.cons (.str _) .nil))), .lst (SqL.of q2) (.cons (.str _) (.cons (.str _) (.cons (.str _) .nil))), by decide +kernel, by decide +kernel, _, rfl, ?_⟩
    have e3 : (PyData.list [.str "", .str "plan", .str "plan"]).eqv (.list [.str "", .str "plan", .str "plan"]) = true := by decide +kernel
    rw [e3]
    exact iteF ⟨rfl, fun H' => k H'⟩
end
end Af

set_option Elab.async false
set_option linter.all false
set_option maxRecDepth 100000
set_option maxHeartbeats 4000000
namespace Af
open PySem L2
def kcs (a b c d e f g h : Addr) : Nat → Addr
  | 0 => a
  | 1 => b
  | 2 => c
  | 3 => d
  | 4 => e
  | 5 => f
  | 6 => g
  | _ => h
theorem by8 {P : Nat → Prop} (h0 : P 0) (h1 : P 1) (h2 : P 2) (h3 : P 3) (h4 : P 4) (h5 : P 5) (h6 : P 6) (h7 : P 7) : ∀ k, k < 8 → P k := fun k h => match k, h with
  | 0, _ => h0
  | 1, _ => h1
  | 2, _ => h2
  | 3, _ => h3
  | 4, _ => h4
  | 5, _ => h5
  | 6, _ => h6
  | 7, _ => h7
  | _ + 8, h => absurd h (by omega)
def tyV : Value → Bool
  | .type _ => true
  | _ => false
theorem mro_ty : ∀ n ∈ tyNames, (fastBuiltinMro n).elim false (·.all tyV) = true := by decide +kernel
theorem sub_ty {K : PySem.W.Frag} {C : Addr} {n : String} (h : n ∈ tyNames) : PySem.W.subIn K (.type n) (.ref C) = some false := by
  have q := mro_ty n h
  show (fastBuiltinMro n).map (·.contains (.ref C)) = some false
  cases e : fastBuiltinMro n with
  | none =>
    rw [e] at q
    cases q
  | some l =>
    rw [e] at q
    show some (l.contains (.ref C)) = some false
    congr 1
    refine Bool.eq_false_iff.mpr fun z => ?_
    have m : Value.ref C ∈ l := by simpa using z
    have := List.all_eq_true.mp q _ m
    cases this
theorem is_own {K : PySem.W.Frag} {t : Value} : PySem.W.kitOne K t t = some true := by
  unfold PySem.W.kitOne
  rw [if_pos (by simp)]
theorem is_no {K : PySem.W.Frag} {C D : Addr} (ic : PySem.W.isClsIn K D = true) (tc : PySem.W.typeIn K (.ref D) = some (.type "type")) (s : PySem.W.subIn K (.ref C) (.ref D) = some false) (n : (Value.ref C == Value.ref D) = false) : PySem.W.kitOne K (.ref C) (.ref D) = some false := by
  unfold PySem.W.kitOne
  rw [if_neg (by rw [n]; decide)]
  show (if ((PySem.W.clsIn K D).isSome && PySem.W.typeIn K (.ref D) == some (.type "type")) = true then PySem.W.subIn K (.ref C) (.ref D) else none) = some false
  rw [if_pos (by rw [tc, show (PySem.W.clsIn K D).isSome = true from ic]; simp)]
  exact s
theorem is_val {K : PySem.W.Frag} {C : Addr} (s : PySem.W.subIn K (.ref C) (.type "ValueError") = some true) : PySem.W.kitOne K (.ref C) (.type "ValueError") = some true := by
  unfold PySem.W.kitOne
  rw [if_neg (by simp)]
  show (if PySem.W.kitMeta "ValueError" = true then PySem.W.subIn K (.ref C) (.type "ValueError") else none) = _
  rw [if_pos (by decide +kernel)]
  exact s
theorem any_no {K : PySem.W.Frag} {C : Value} {D : Value} {l : List Value} (h : PySem.W.kitOne K C D = some false) (t : PySem.W.kitAny K C l = some false) : PySem.W.kitAny K C (D :: l) = some false :=
  kitAny_cons h (fun _ => t) (fun z => by cases z)
theorem first_not {K : PySem.W.Frag} {C : Addr} {n : String} (h : n ∈ tyNames) : PySem.W.notFirst K C (.type n) = true := by
  unfold PySem.W.notFirst
  rw [sub_ty h]
  simp
theorem is_not {K : PySem.W.Frag} {C : Addr} {n : String} (h : n ∈ tyNames) (ic : PySem.W.isClsIn K C = true) (tc : PySem.W.typeIn K (.ref C) = some (.type "type")) : PySem.W.kitOne K (.type n) (.ref C) = some false := by
  unfold PySem.W.kitOne
  rw [if_neg (by simp)]
  show (if ((PySem.W.clsIn K C).isSome && PySem.W.typeIn K (.ref C) == some (.type "type")) = true then PySem.W.subIn K (.type n) (.ref C) else none) = some false
  rw [if_pos (by rw [tc, show (PySem.W.clsIn K C).isSome = true from ic]; simp)]
  exact sub_ty h
theorem all_mk {l : PySem.W.OpenLaw} {w : World} {K : PySem.W.Frag} {h : Heap} {mg : Str → Option Value} {fa C S R : Addr} (X : K.In h) (G : h.Ns mainGlobals mg) (hfa : mg "law" = some (.ref fa))
    {f1 : Addr} {od1 an1 : Option Addr} {sl1 : Array (Option Value)} {oc1 kV1 dc1 pm1 cd1 ct1 : Value}
    {f2 : Addr} {od2 an2 : Option Addr} {sl2 : Array (Option Value)} {oc2 kV2 dc2 pm2 cd2 ct2 : Value}
    {f3 : Addr} {od3 an3 : Option Addr} {sl3 : Array (Option Value)} {oc3 kV3 dc3 pm3 cd3 ct3 : Value}
    {f4 : Addr} {od4 an4 : Option Addr} {sl4 : Array (Option Value)} {oc4 kV4 dc4 pm4 cd4 ct4 : Value}
    {f5 : Addr} {od5 an5 : Option Addr} {sl5 : Array (Option Value)} {oc5 kV5 dc5 pm5 cd5 ct5 : Value}
    {f6 : Addr} {od6 an6 : Option Addr} {sl6 : Array (Option Value)} {oc6 kV6 dc6 pm6 cd6 ct6 : Value}
    {f7 : Addr} {od7 an7 : Option Addr} {sl7 : Array (Option Value)} {oc7 kV7 dc7 pm7 cd7 ct7 : Value}
    {f8 : Addr} {od8 an8 : Option Addr} {sl8 : Array (Option Value)} {oc8 kV8 dc8 pm8 cd8 ct8 : Value}
    {f9 : Addr} {od9 an9 : Option Addr} {sl9 : Array (Option Value)} {oc9 kV9 dc9 pm9 cd9 ct9 : Value}
    {f10 : Addr} {od10 an10 : Option Addr} {sl10 : Array (Option Value)} {oc10 kV10 dc10 pm10 cd10 ct10 : Value}
    {f11 : Addr} {od11 an11 : Option Addr} {sl11 : Array (Option Value)} {oc11 kV11 dc11 pm11 cd11 ct11 : Value}
    {f12 : Addr} {od12 an12 : Option Addr} {sl12 : Array (Option Value)} {oc12 kV12 dc12 pm12 cd12 ct12 : Value}
    {f13 : Addr} {od13 an13 : Option Addr} {sl13 : Array (Option Value)} {oc13 kV13 dc13 pm13 cd13 ct13 : Value}
    {f14 : Addr} {od14 an14 : Option Addr} {sl14 : Array (Option Value)} {oc14 kV14 dc14 pm14 cd14 ct14 : Value}
    {f15 : Addr} {od15 an15 : Option Addr} {sl15 : Array (Option Value)} {oc15 kV15 dc15 pm15 cd15 ct15 : Value}
    {f16 : Addr} {od16 an16 : Option Addr} {sl16 : Array (Option Value)} {oc16 kV16 dc16 pm16 cd16 ct16 : Value}
    {f17 : Addr} {od17 an17 : Option Addr} {sl17 : Array (Option Value)} {oc17 kV17 dc17 pm17 cd17 ct17 : Value}
    {f18 : Addr} {od18 an18 : Option Addr} {sl18 : Array (Option Value)} {oc18 kV18 dc18 pm18 cd18 ct18 : Value}
    {f19 : Addr} {od19 an19 : Option Addr} {sl19 : Array (Option Value)} {oc19 kV19 dc19 pm19 cd19 ct19 : Value}
    {f20 : Addr} {od20 an20 : Option Addr} {sl20 : Array (Option Value)} {oc20 kV20 dc20 pm20 cd20 ct20 : Value}
    {f21 : Addr} {od21 an21 : Option Addr} {sl21 : Array (Option Value)} {oc21 kV21 dc21 pm21 cd21 ct21 : Value}
    {f22 : Addr} {od22 an22 : Option Addr} {sl22 : Array (Option Value)} {oc22 kV22 dc22 pm22 cd22 ct22 : Value}
    {f23 : Addr} {od23 an23 : Option Addr} {sl23 : Array (Option Value)} {oc23 kV23 dc23 pm23 cd23 ct23 : Value}
    {f24 : Addr} {od24 an24 : Option Addr} {sl24 : Array (Option Value)} {oc24 kV24 dc24 pm24 cd24 ct24 : Value}
    {f25 : Addr} {od25 an25 : Option Addr} {sl25 : Array (Option Value)} {oc25 kV25 dc25 pm25 cd25 ct25 : Value}
    {f26 : Addr} {od26 an26 : Option Addr} {sl26 : Array (Option Value)} {oc26 kV26 dc26 pm26 cd26 ct26 : Value}
    {f27 : Addr} {od27 an27 : Option Addr} {sl27 : Array (Option Value)} {oc27 kV27 dc27 pm27 cd27 ct27 : Value}
    {f28 : Addr} {od28 an28 : Option Addr} {sl28 : Array (Option Value)} {oc28 kV28 dc28 pm28 cd28 ct28 : Value}
    {f29 : Addr} {od29 an29 : Option Addr} {sl29 : Array (Option Value)} {oc29 kV29 dc29 pm29 cd29 ct29 : Value}
    {f30 : Addr} {od30 an30 : Option Addr} {sl30 : Array (Option Value)} {oc30 kV30 dc30 pm30 cd30 ct30 : Value}
    {f31 : Addr} {od31 an31 : Option Addr} {sl31 : Array (Option Value)} {oc31 kV31 dc31 pm31 cd31 ct31 : Value}
    {f32 : Addr} {od32 an32 : Option Addr} {sl32 : Array (Option Value)} {oc32 kV32 dc32 pm32 cd32 ct32 : Value}
    {f33 : Addr} {od33 an33 : Option Addr} {sl33 : Array (Option Value)} {oc33 kV33 dc33 pm33 cd33 ct33 : Value}
    {f34 : Addr} {od34 an34 : Option Addr} {sl34 : Array (Option Value)} {oc34 kV34 dc34 pm34 cd34 ct34 : Value}
    {f35 : Addr} {od35 an35 : Option Addr} {sl35 : Array (Option Value)} {oc35 kV35 dc35 pm35 cd35 ct35 : Value}
    {f36 : Addr} {od36 an36 : Option Addr} {sl36 : Array (Option Value)} {oc36 kV36 dc36 pm36 cd36 ct36 : Value}
    {f37 : Addr} {od37 an37 : Option Addr} {sl37 : Array (Option Value)} {oc37 kV37 dc37 pm37 cd37 ct37 : Value}
    {f38 : Addr} {od38 an38 : Option Addr} {sl38 : Array (Option Value)} {oc38 kV38 dc38 pm38 cd38 ct38 : Value}
    {f39 : Addr} {od39 an39 : Option Addr} {sl39 : Array (Option Value)} {oc39 kV39 dc39 pm39 cd39 ct39 : Value}
    {f40 : Addr} {od40 an40 : Option Addr} {sl40 : Array (Option Value)} {oc40 kV40 dc40 pm40 cd40 ct40 : Value}
    {f41 : Addr} {od41 an41 : Option Addr} {sl41 : Array (Option Value)} {oc41 kV41 dc41 pm41 cd41 ct41 : Value}
    {f42 : Addr} {od42 an42 : Option Addr} {sl42 : Array (Option Value)} {oc42 kV42 dc42 pm42 cd42 ct42 : Value}
    {pp42 : Addr} {pr42 : List Value}
    {f43 : Addr} {od43 an43 : Option Addr} {sl43 : Array (Option Value)} {oc43 kV43 dc43 pm43 cd43 ct43 : Value}
    {pp43 : Addr} {pr43 : List Value}
    {f44 : Addr} {od44 an44 : Option Addr} {sl44 : Array (Option Value)} {oc44 kV44 dc44 pm44 cd44 ct44 : Value}
    {pp44 : Addr} {pr44 : List Value}
    {f45 : Addr} {od45 an45 : Option Addr} {sl45 : Array (Option Value)} {oc45 kV45 dc45 pm45 cd45 ct45 : Value}
    {pp45 : Addr} {pr45 : List Value}
    {f46 : Addr} {od46 an46 : Option Addr} {sl46 : Array (Option Value)} {oc46 kV46 dc46 pm46 cd46 ct46 : Value}
    {pp46 : Addr} {pr46 : List Value}
    {f47 : Addr} {od47 an47 : Option Addr} {sl47 : Array (Option Value)} {oc47 kV47 dc47 pm47 cd47 ct47 : Value}
    {f48 : Addr} {od48 an48 : Option Addr} {sl48 : Array (Option Value)} {oc48 kV48 dc48 pm48 cd48 ct48 : Value}
    {f49 : Addr} {od49 an49 : Option Addr} {sl49 : Array (Option Value)} {oc49 kV49 dc49 pm49 cd49 ct49 : Value}
    {f50 : Addr} {od50 an50 : Option Addr} {sl50 : Array (Option Value)} {oc50 kV50 dc50 pm50 cd50 ct50 : Value}
    {f51 : Addr} {od51 an51 : Option Addr} {sl51 : Array (Option Value)} {oc51 kV51 dc51 pm51 cd51 ct51 : Value}
    {f52 : Addr} {od52 an52 : Option Addr} {sl52 : Array (Option Value)} {oc52 kV52 dc52 pm52 cd52 ct52 : Value}
    {f53 : Addr} {od53 an53 : Option Addr} {sl53 : Array (Option Value)} {oc53 kV53 dc53 pm53 cd53 ct53 : Value}
    {f54 : Addr} {od54 an54 : Option Addr} {sl54 : Array (Option Value)} {oc54 kV54 dc54 pm54 cd54 ct54 : Value}
    {f55 : Addr} {od55 an55 : Option Addr} {sl55 : Array (Option Value)} {oc55 kV55 dc55 pm55 cd55 ct55 : Value}
    {f56 : Addr} {od56 an56 : Option Addr} {sl56 : Array (Option Value)} {oc56 kV56 dc56 pm56 cd56 ct56 : Value}
    {f57 : Addr} {od57 an57 : Option Addr} {sl57 : Array (Option Value)} {oc57 kV57 dc57 pm57 cd57 ct57 : Value}
    {f58 : Addr} {od58 an58 : Option Addr} {sl58 : Array (Option Value)} {oc58 kV58 dc58 pm58 cd58 ct58 : Value}
    {f59 : Addr} {od59 an59 : Option Addr} {sl59 : Array (Option Value)} {oc59 kV59 dc59 pm59 cd59 ct59 : Value}
    {pp59 : Addr} {pr59 : List Value}
    {f60 : Addr} {od60 an60 : Option Addr} {sl60 : Array (Option Value)} {oc60 kV60 dc60 pm60 cd60 ct60 : Value}
    {pp60 : Addr} {pr60 : List Value}
    {f61 : Addr} {od61 an61 : Option Addr} {sl61 : Array (Option Value)} {oc61 kV61 dc61 pm61 cd61 ct61 : Value}
    {pp61 : Addr} {pr61 : List Value}
    {f62 : Addr} {od62 an62 : Option Addr} {sl62 : Array (Option Value)} {oc62 kV62 dc62 pm62 cd62 ct62 : Value}
    {pp62 : Addr} {pr62 : List Value}
    {CF IS EM EU EA EE EN IT IL : Addr}
    {tk0 : Nat}
    {tk1 : Nat}
    {tk2 : Nat}
    {ta0 : Addr} {td0 : Option Addr} {ti0 : Array Value} {tn0 : Nat} {ts0 : Array (Option Value)}
    (a1 : PySem.W.nsIn K mainGlobals "is_integer" = some (some (.ref f1))) (l1 : K.lookup f1 = some ⟨oc1, od1, .func (PySem.W.fnOf "is_integer" "is_integer" (defArgs s_is_integer) (defBody s_is_integer) (defScope s_is_integer) .none kV1 dc1 pm1 an1 cd1 ct1), sl1⟩) (c1 : PySem.W.codeIn K cd1 "is_integer" = true) (k1 : PySem.W.keepIn K (.ref f1) = true)
    (a2 : PySem.W.nsIn K mainGlobals "is_index" = some (some (.ref f2))) (l2 : K.lookup f2 = some ⟨oc2, od2, .func (PySem.W.fnOf "is_index" "is_index" (defArgs s_is_index) (defBody s_is_index) (defScope s_is_index) .none kV2 dc2 pm2 an2 cd2 ct2), sl2⟩) (c2 : PySem.W.codeIn K cd2 "is_index" = true) (k2 : PySem.W.keepIn K (.ref f2) = true)
    (a3 : PySem.W.nsIn K mainGlobals "is_width" = some (some (.ref f3))) (l3 : K.lookup f3 = some ⟨oc3, od3, .func (PySem.W.fnOf "is_width" "is_width" (defArgs s_is_width) (defBody s_is_width) (defScope s_is_width) .none kV3 dc3 pm3 an3 cd3 ct3), sl3⟩) (c3 : PySem.W.codeIn K cd3 "is_width" = true) (k3 : PySem.W.keepIn K (.ref f3) = true)
    (a4 : PySem.W.nsIn K mainGlobals "are_worths" = some (some (.ref f4))) (l4 : K.lookup f4 = some ⟨oc4, od4, .func (PySem.W.fnOf "are_worths" "are_worths" (defArgs s_are_worths) (defBody s_are_worths) (defScope s_are_worths) .none kV4 dc4 pm4 an4 cd4 ct4), sl4⟩) (c4 : PySem.W.codeIn K cd4 "are_worths" = true) (k4 : PySem.W.keepIn K (.ref f4) = true)
    (a5 : PySem.W.nsIn K mainGlobals "is_content" = some (some (.ref f5))) (l5 : K.lookup f5 = some ⟨oc5, od5, .func (PySem.W.fnOf "is_content" "is_content" (defArgs s_is_content) (defBody s_is_content) (defScope s_is_content) .none kV5 dc5 pm5 an5 cd5 ct5), sl5⟩) (c5 : PySem.W.codeIn K cd5 "is_content" = true) (k5 : PySem.W.keepIn K (.ref f5) = true)
    (a6 : PySem.W.nsIn K mainGlobals "is_step" = some (some (.ref f6))) (l6 : K.lookup f6 = some ⟨oc6, od6, .func (PySem.W.fnOf "is_step" "is_step" (defArgs s_is_step) (defBody s_is_step) (defScope s_is_step) .none kV6 dc6 pm6 an6 cd6 ct6), sl6⟩) (c6 : PySem.W.codeIn K cd6 "is_step" = true) (k6 : PySem.W.keepIn K (.ref f6) = true)
    (a7 : PySem.W.nsIn K mainGlobals "_broken" = some (some (.ref f7))) (l7 : K.lookup f7 = some ⟨oc7, od7, .func (PySem.W.fnOf "_broken" "_broken" (defArgs s_broken) (defBody s_broken) (defScope s_broken) .none kV7 dc7 pm7 an7 cd7 ct7), sl7⟩) (c7 : PySem.W.codeIn K cd7 "_broken" = true) (k7 : PySem.W.keepIn K (.ref f7) = true)
    (a8 : PySem.W.nsIn K mainGlobals "_pieces_of" = some (some (.ref f8))) (l8 : K.lookup f8 = some ⟨oc8, od8, .func (PySem.W.fnOf "_pieces_of" "_pieces_of" (defArgs s_pieces_of) (defBody s_pieces_of) (defScope s_pieces_of) .none kV8 dc8 pm8 an8 cd8 ct8), sl8⟩) (c8 : PySem.W.codeIn K cd8 "_pieces_of" = true) (k8 : PySem.W.keepIn K (.ref f8) = true)
    (a9 : PySem.W.nsIn K mainGlobals "is_room" = some (some (.ref f9))) (l9 : K.lookup f9 = some ⟨oc9, od9, .func (PySem.W.fnOf "is_room" "is_room" (defArgs s_is_room) (defBody s_is_room) (defScope s_is_room) .none kV9 dc9 pm9 an9 cd9 ct9), sl9⟩) (c9 : PySem.W.codeIn K cd9 "is_room" = true) (k9 : PySem.W.keepIn K (.ref f9) = true)
    (a10 : PySem.W.nsIn K mainGlobals "are_steps" = some (some (.ref f10))) (l10 : K.lookup f10 = some ⟨oc10, od10, .func (PySem.W.fnOf "are_steps" "are_steps" (defArgs s_are_steps) (defBody s_are_steps) (defScope s_are_steps) .none kV10 dc10 pm10 an10 cd10 ct10), sl10⟩) (c10 : PySem.W.codeIn K cd10 "are_steps" = true) (k10 : PySem.W.keepIn K (.ref f10) = true)
    (a11 : PySem.W.nsIn K mainGlobals "_epochs_of" = some (some (.ref f11))) (l11 : K.lookup f11 = some ⟨oc11, od11, .func (PySem.W.fnOf "_epochs_of" "_epochs_of" (defArgs s_epochs_of) (defBody s_epochs_of) (defScope s_epochs_of) .none kV11 dc11 pm11 an11 cd11 ct11), sl11⟩) (c11 : PySem.W.codeIn K cd11 "_epochs_of" = true) (k11 : PySem.W.keepIn K (.ref f11) = true)
    (a12 : PySem.W.nsIn K mainGlobals "_law_pen" = some (some (.ref f12))) (l12 : K.lookup f12 = some ⟨oc12, od12, .func (PySem.W.fnOf "_law_pen" "_law_pen" (defArgs s_l_pen) (defBody s_l_pen) (defScope s_l_pen) .none kV12 dc12 pm12 an12 cd12 ct12), sl12⟩) (c12 : PySem.W.codeIn K cd12 "_law_pen" = true) (k12 : PySem.W.keepIn K (.ref f12) = true)
    (a13 : PySem.W.nsIn K mainGlobals "_law_next" = some (some (.ref f13))) (l13 : K.lookup f13 = some ⟨oc13, od13, .func (PySem.W.fnOf "_law_next" "_law_next" (defArgs s_l_next) (defBody s_l_next) (defScope s_l_next) .none kV13 dc13 pm13 an13 cd13 ct13), sl13⟩) (c13 : PySem.W.codeIn K cd13 "_law_next" = true) (k13 : PySem.W.keepIn K (.ref f13) = true)
    (a14 : PySem.W.nsIn K mainGlobals "_law_draw" = some (some (.ref f14))) (l14 : K.lookup f14 = some ⟨oc14, od14, .func (PySem.W.fnOf "_law_draw" "_law_draw" (defArgs s_l_draw) (defBody s_l_draw) (defScope s_l_draw) .none kV14 dc14 pm14 an14 cd14 ct14), sl14⟩) (c14 : PySem.W.codeIn K cd14 "_law_draw" = true) (k14 : PySem.W.keepIn K (.ref f14) = true)
    (a15 : PySem.W.nsIn K mainGlobals "piece_epochs" = some (some (.ref f15))) (l15 : K.lookup f15 = some ⟨oc15, od15, .func (PySem.W.fnOf "piece_epochs" "piece_epochs" (defArgs s_piece_epochs) (defBody s_piece_epochs) (defScope s_piece_epochs) .none kV15 dc15 pm15 an15 cd15 ct15), sl15⟩) (c15 : PySem.W.codeIn K cd15 "piece_epochs" = true) (k15 : PySem.W.keepIn K (.ref f15) = true)
    (a16 : PySem.W.nsIn K mainGlobals "behind_piece" = some (some (.ref f16))) (l16 : K.lookup f16 = some ⟨oc16, od16, .func (PySem.W.fnOf "behind_piece" "behind_piece" (defArgs s_behind_piece) (defBody s_behind_piece) (defScope s_behind_piece) .none kV16 dc16 pm16 an16 cd16 ct16), sl16⟩) (c16 : PySem.W.codeIn K cd16 "behind_piece" = true) (k16 : PySem.W.keepIn K (.ref f16) = true)
    (a17 : PySem.W.nsIn K mainGlobals "ready_behind" = some (some (.ref f17))) (l17 : K.lookup f17 = some ⟨oc17, od17, .func (PySem.W.fnOf "ready_behind" "ready_behind" (defArgs s_ready_behind) (defBody s_ready_behind) (defScope s_ready_behind) .none kV17 dc17 pm17 an17 cd17 ct17), sl17⟩) (c17 : PySem.W.codeIn K cd17 "ready_behind" = true) (k17 : PySem.W.keepIn K (.ref f17) = true)
    (a18 : PySem.W.nsIn K mainGlobals "begun" = some (some (.ref f18))) (l18 : K.lookup f18 = some ⟨oc18, od18, .func (PySem.W.fnOf "begun" "begun" (defArgs s_begun) (defBody s_begun) (defScope s_begun) .none kV18 dc18 pm18 an18 cd18 ct18), sl18⟩) (c18 : PySem.W.codeIn K cd18 "begun" = true) (k18 : PySem.W.keepIn K (.ref f18) = true)
    (a19 : PySem.W.nsIn K mainGlobals "_law_parts" = some (some (.ref f19))) (l19 : K.lookup f19 = some ⟨oc19, od19, .func (PySem.W.fnOf "_law_parts" "_law_parts" (defArgs s_l_parts) (defBody s_l_parts) (defScope s_l_parts) .none kV19 dc19 pm19 an19 cd19 ct19), sl19⟩) (c19 : PySem.W.codeIn K cd19 "_law_parts" = true) (k19 : PySem.W.keepIn K (.ref f19) = true)
    (a20 : PySem.W.nsIn K mainGlobals "_law_over" = some (some (.ref f20))) (l20 : K.lookup f20 = some ⟨oc20, od20, .func (PySem.W.fnOf "_law_over" "_law_over" (defArgs s_l_over) (defBody s_l_over) (defScope s_l_over) .none kV20 dc20 pm20 an20 cd20 ct20), sl20⟩) (c20 : PySem.W.codeIn K cd20 "_law_over" = true) (k20 : PySem.W.keepIn K (.ref f20) = true)
    (a21 : PySem.W.nsIn K mainGlobals "_law_is_early" = some (some (.ref f21))) (l21 : K.lookup f21 = some ⟨oc21, od21, .func (PySem.W.fnOf "_law_is_early" "_law_is_early" (defArgs s_l_is_early) (defBody s_l_is_early) (defScope s_l_is_early) .none kV21 dc21 pm21 an21 cd21 ct21), sl21⟩) (c21 : PySem.W.codeIn K cd21 "_law_is_early" = true) (k21 : PySem.W.keepIn K (.ref f21) = true)
    (a22 : PySem.W.nsIn K mainGlobals "_law_is_below" = some (some (.ref f22))) (l22 : K.lookup f22 = some ⟨oc22, od22, .func (PySem.W.fnOf "_law_is_below" "_law_is_below" (defArgs s_l_is_below) (defBody s_l_is_below) (defScope s_l_is_below) .none kV22 dc22 pm22 an22 cd22 ct22), sl22⟩) (c22 : PySem.W.codeIn K cd22 "_law_is_below" = true) (k22 : PySem.W.keepIn K (.ref f22) = true)
    (a23 : PySem.W.nsIn K mainGlobals "_law_is_step" = some (some (.ref f23))) (l23 : K.lookup f23 = some ⟨oc23, od23, .func (PySem.W.fnOf "_law_is_step" "_law_is_step" (defArgs s_l_is_step) (defBody s_l_is_step) (defScope s_l_is_step) .none kV23 dc23 pm23 an23 cd23 ct23), sl23⟩) (c23 : PySem.W.codeIn K cd23 "_law_is_step" = true) (k23 : PySem.W.keepIn K (.ref f23) = true)
    (a24 : PySem.W.nsIn K mainGlobals "_law_held" = some (some (.ref f24))) (l24 : K.lookup f24 = some ⟨oc24, od24, .func (PySem.W.fnOf "_law_held" "_law_held" (defArgs s_l_held) (defBody s_l_held) (defScope s_l_held) .none kV24 dc24 pm24 an24 cd24 ct24), sl24⟩) (c24 : PySem.W.codeIn K cd24 "_law_held" = true) (k24 : PySem.W.keepIn K (.ref f24) = true)
    (a25 : PySem.W.nsIn K mainGlobals "_law_nexts" = some (some (.ref f25))) (l25 : K.lookup f25 = some ⟨oc25, od25, .func (PySem.W.fnOf "_law_nexts" "_law_nexts" (defArgs s_l_nexts) (defBody s_l_nexts) (defScope s_l_nexts) .none kV25 dc25 pm25 an25 cd25 ct25), sl25⟩) (c25 : PySem.W.codeIn K cd25 "_law_nexts" = true) (k25 : PySem.W.keepIn K (.ref f25) = true)
    (a26 : PySem.W.nsIn K mainGlobals "_law_longer" = some (some (.ref f26))) (l26 : K.lookup f26 = some ⟨oc26, od26, .func (PySem.W.fnOf "_law_longer" "_law_longer" (defArgs s_l_longer) (defBody s_l_longer) (defScope s_l_longer) .none kV26 dc26 pm26 an26 cd26 ct26), sl26⟩) (c26 : PySem.W.codeIn K cd26 "_law_longer" = true) (k26 : PySem.W.keepIn K (.ref f26) = true)
    (a27 : PySem.W.nsIn K mainGlobals "_law_store_due" = some (some (.ref f27))) (l27 : K.lookup f27 = some ⟨oc27, od27, .func (PySem.W.fnOf "_law_store_due" "_law_store_due" (defArgs s_l_store_due) (defBody s_l_store_due) (defScope s_l_store_due) .none kV27 dc27 pm27 an27 cd27 ct27), sl27⟩) (c27 : PySem.W.codeIn K cd27 "_law_store_due" = true) (k27 : PySem.W.keepIn K (.ref f27) = true)
    (a28 : PySem.W.nsIn K mainGlobals "_law_error" = some (some (.ref f28))) (l28 : K.lookup f28 = some ⟨oc28, od28, .func (PySem.W.fnOf "_law_error" "_law_error" (defArgs s_l_error) (defBody s_l_error) (defScope s_l_error) .none kV28 dc28 pm28 an28 cd28 ct28), sl28⟩) (c28 : PySem.W.codeIn K cd28 "_law_error" = true) (k28 : PySem.W.keepIn K (.ref f28) = true)
    (a29 : PySem.W.nsIn K mainGlobals "_law_outcome" = some (some (.ref f29))) (l29 : K.lookup f29 = some ⟨oc29, od29, .func (PySem.W.fnOf "_law_outcome" "_law_outcome" (defArgs s_l_outcome) (defBody s_l_outcome) (defScope s_l_outcome) .none kV29 dc29 pm29 an29 cd29 ct29), sl29⟩) (c29 : PySem.W.codeIn K cd29 "_law_outcome" = true) (k29 : PySem.W.keepIn K (.ref f29) = true)
    (a30 : PySem.W.nsIn K mainGlobals "_law_called" = some (some (.ref f30))) (l30 : K.lookup f30 = some ⟨oc30, od30, .func (PySem.W.fnOf "_law_called" "_law_called" (defArgs s_l_called) (defBody s_l_called) (defScope s_l_called) .none kV30 dc30 pm30 an30 cd30 ct30), sl30⟩) (c30 : PySem.W.codeIn K cd30 "_law_called" = true) (k30 : PySem.W.keepIn K (.ref f30) = true)
    (a31 : PySem.W.nsIn K mainGlobals "_law_same" = some (some (.ref f31))) (l31 : K.lookup f31 = some ⟨oc31, od31, .func (PySem.W.fnOf "_law_same" "_law_same" (defArgs s_l_same) (defBody s_l_same) (defScope s_l_same) .none kV31 dc31 pm31 an31 cd31 ct31), sl31⟩) (c31 : PySem.W.codeIn K cd31 "_law_same" = true) (k31 : PySem.W.keepIn K (.ref f31) = true)
    (a32 : PySem.W.nsIn K mainGlobals "_law_step" = some (some (.ref f32))) (l32 : K.lookup f32 = some ⟨oc32, od32, .func (PySem.W.fnOf "_law_step" "_law_step" (defArgs s_l_step) (defBody s_l_step) (defScope s_l_step) .none kV32 dc32 pm32 an32 cd32 ct32), sl32⟩) (c32 : PySem.W.codeIn K cd32 "_law_step" = true) (k32 : PySem.W.keepIn K (.ref f32) = true)
    (a33 : PySem.W.nsIn K mainGlobals "_law_call" = some (some (.ref f33))) (l33 : K.lookup f33 = some ⟨oc33, od33, .func (PySem.W.fnOf "_law_call" "_law_call" (defArgs s_l_call) (defBody s_l_call) (defScope s_l_call) .none kV33 dc33 pm33 an33 cd33 ct33), sl33⟩) (c33 : PySem.W.codeIn K cd33 "_law_call" = true) (k33 : PySem.W.keepIn K (.ref f33) = true)
    (a34 : PySem.W.nsIn K mainGlobals "_law_page" = some (some (.ref f34))) (l34 : K.lookup f34 = some ⟨oc34, od34, .func (PySem.W.fnOf "_law_page" "_law_page" (defArgs s_l_page) (defBody s_l_page) (defScope s_l_page) .none kV34 dc34 pm34 an34 cd34 ct34), sl34⟩) (c34 : PySem.W.codeIn K cd34 "_law_page" = true) (k34 : PySem.W.keepIn K (.ref f34) = true)
    (a35 : PySem.W.nsIn K mainGlobals "_law_odd" = some (some (.ref f35))) (l35 : K.lookup f35 = some ⟨oc35, od35, .func (PySem.W.fnOf "_law_odd" "_law_odd" (defArgs s_l_odd) (defBody s_l_odd) (defScope s_l_odd) .none kV35 dc35 pm35 an35 cd35 ct35), sl35⟩) (c35 : PySem.W.codeIn K cd35 "_law_odd" = true) (k35 : PySem.W.keepIn K (.ref f35) = true)
    (a36 : PySem.W.nsIn K mainGlobals "_law_is_made" = some (some (.ref f36))) (l36 : K.lookup f36 = some ⟨oc36, od36, .func (PySem.W.fnOf "_law_is_made" "_law_is_made" (defArgs s_l_is_made) (defBody s_l_is_made) (defScope s_l_is_made) .none kV36 dc36 pm36 an36 cd36 ct36), sl36⟩) (c36 : PySem.W.codeIn K cd36 "_law_is_made" = true) (k36 : PySem.W.keepIn K (.ref f36) = true)
    (a37 : PySem.W.nsIn K mainGlobals "_law_full_right" = some (some (.ref f37))) (l37 : K.lookup f37 = some ⟨oc37, od37, .func (PySem.W.fnOf "_law_full_right" "_law_full_right" (defArgs s_l_full_right) (defBody s_l_full_right) (defScope s_l_full_right) .none kV37 dc37 pm37 an37 cd37 ct37), sl37⟩) (c37 : PySem.W.codeIn K cd37 "_law_full_right" = true) (k37 : PySem.W.keepIn K (.ref f37) = true)
    (a38 : PySem.W.nsIn K mainGlobals "law" = some (some (.ref f38))) (l38 : K.lookup f38 = some ⟨oc38, od38, .func (PySem.W.fnOf "law" "law" (defArgs s_law) (defBody s_law) (defScope s_law) .none kV38 dc38 pm38 an38 cd38 ct38), sl38⟩) (c38 : PySem.W.codeIn K cd38 "law" = true) (k38 : PySem.W.keepIn K (.ref f38) = true)
    (aC : PySem.W.nsIn K mainGlobals "Plan" = some (some (.ref C)))
    (a39 : PySem.W.findIn K (.ref C) "__init__" = some (some (.ref f39))) (i39 : PySem.W.isFn K (.ref f39) = true) (l39 : K.lookup f39 = some ⟨oc39, od39, .func (PySem.W.fnOf "__init__" "Plan.__init__" (defArgs s_Plan___init) (defBody s_Plan___init) (defScope s_Plan___init) .none kV39 dc39 pm39 an39 cd39 ct39), sl39⟩) (c39 : PySem.W.codeIn K cd39 "Plan.__init__" = true) (k39 : PySem.W.keepIn K (.ref f39) = true)
    (a40 : PySem.W.findIn K (.ref C) "__eq__" = some (some (.ref f40))) (i40 : PySem.W.isFn K (.ref f40) = true) (l40 : K.lookup f40 = some ⟨oc40, od40, .func (PySem.W.fnOf "__eq__" "Plan.__eq__" (defArgs s_Plan___eq) (defBody s_Plan___eq) (defScope s_Plan___eq) .none kV40 dc40 pm40 an40 cd40 ct40), sl40⟩) (c40 : PySem.W.codeIn K cd40 "Plan.__eq__" = true) (k40 : PySem.W.keepIn K (.ref f40) = true)
    (a41 : PySem.W.findIn K (.ref C) "epoch_of" = some (some (.ref f41))) (i41 : PySem.W.isFn K (.ref f41) = true) (l41 : K.lookup f41 = some ⟨oc41, od41, .func (PySem.W.fnOf "epoch_of" "Plan.epoch_of" (defArgs s_Plan_epoch_of) (defBody s_Plan_epoch_of) (defScope s_Plan_epoch_of) .none kV41 dc41 pm41 an41 cd41 ct41), sl41⟩) (c41 : PySem.W.codeIn K cd41 "Plan.epoch_of" = true) (k41 : PySem.W.keepIn K (.ref f41) = true)
    (a42 : PySem.W.findIn K (.ref C) "base" = some (some (.ref pp42))) (i42 : PySem.W.specialIn K (.ref pp42) "__get__" = some (some (.builtin "property.__get__"))) (j42 : PySem.W.takesIn K (.ref pp42) = some true) (r42 : PySem.W.recIn K pp42 "property" = some (.ref f42 :: pr42)) (l42 : K.lookup f42 = some ⟨oc42, od42, .func (PySem.W.fnOf "base" "Plan.base" (defArgs s_Plan_base) (defBody s_Plan_base) (defScope s_Plan_base) .none kV42 dc42 pm42 an42 cd42 ct42), sl42⟩) (c42 : PySem.W.codeIn K cd42 "Plan.base" = true) (k42 : PySem.W.keepIn K (.ref f42) = true)
    (a43 : PySem.W.findIn K (.ref C) "width" = some (some (.ref pp43))) (i43 : PySem.W.specialIn K (.ref pp43) "__get__" = some (some (.builtin "property.__get__"))) (j43 : PySem.W.takesIn K (.ref pp43) = some true) (r43 : PySem.W.recIn K pp43 "property" = some (.ref f43 :: pr43)) (l43 : K.lookup f43 = some ⟨oc43, od43, .func (PySem.W.fnOf "width" "Plan.width" (defArgs s_Plan_width) (defBody s_Plan_width) (defScope s_Plan_width) .none kV43 dc43 pm43 an43 cd43 ct43), sl43⟩) (c43 : PySem.W.codeIn K cd43 "Plan.width" = true) (k43 : PySem.W.keepIn K (.ref f43) = true)
    (a44 : PySem.W.findIn K (.ref C) "steps" = some (some (.ref pp44))) (i44 : PySem.W.specialIn K (.ref pp44) "__get__" = some (some (.builtin "property.__get__"))) (j44 : PySem.W.takesIn K (.ref pp44) = some true) (r44 : PySem.W.recIn K pp44 "property" = some (.ref f44 :: pr44)) (l44 : K.lookup f44 = some ⟨oc44, od44, .func (PySem.W.fnOf "steps" "Plan.steps" (defArgs s_Plan_steps) (defBody s_Plan_steps) (defScope s_Plan_steps) .none kV44 dc44 pm44 an44 cd44 ct44), sl44⟩) (c44 : PySem.W.codeIn K cd44 "Plan.steps" = true) (k44 : PySem.W.keepIn K (.ref f44) = true)
    (a45 : PySem.W.findIn K (.ref C) "pieces" = some (some (.ref pp45))) (i45 : PySem.W.specialIn K (.ref pp45) "__get__" = some (some (.builtin "property.__get__"))) (j45 : PySem.W.takesIn K (.ref pp45) = some true) (r45 : PySem.W.recIn K pp45 "property" = some (.ref f45 :: pr45)) (l45 : K.lookup f45 = some ⟨oc45, od45, .func (PySem.W.fnOf "pieces" "Plan.pieces" (defArgs s_Plan_pieces) (defBody s_Plan_pieces) (defScope s_Plan_pieces) .none kV45 dc45 pm45 an45 cd45 ct45), sl45⟩) (c45 : PySem.W.codeIn K cd45 "Plan.pieces" = true) (k45 : PySem.W.keepIn K (.ref f45) = true)
    (a46 : PySem.W.findIn K (.ref C) "epochs" = some (some (.ref pp46))) (i46 : PySem.W.specialIn K (.ref pp46) "__get__" = some (some (.builtin "property.__get__"))) (j46 : PySem.W.takesIn K (.ref pp46) = some true) (r46 : PySem.W.recIn K pp46 "property" = some (.ref f46 :: pr46)) (l46 : K.lookup f46 = some ⟨oc46, od46, .func (PySem.W.fnOf "epochs" "Plan.epochs" (defArgs s_Plan_epochs) (defBody s_Plan_epochs) (defScope s_Plan_epochs) .none kV46 dc46 pm46 an46 cd46 ct46), sl46⟩) (c46 : PySem.W.codeIn K cd46 "Plan.epochs" = true) (k46 : PySem.W.keepIn K (.ref f46) = true)
    (pg : PySem.W.plainGet K C Str.empty = true) (hd : PySem.W.hasDictIn K C = true) (po : PySem.W.plainOver K C = true) (sa : PySem.W.findIn K (.ref C) "__setattr__" = some (some (.builtin "object.__setattr__"))) (mk : PySem.W.makesIn K C = true) (kc : PySem.W.keepIn K (.ref C) = true)
    (ic : PySem.W.isClsIn K C = true) (tc : PySem.W.typeIn K (.ref C) = some (.type "type")) (ha : PySem.W.findIn K (.ref C) "__class__" = some (some (.builtin "object.__class__"))) (hn : PySem.W.specialIn K (.builtin "object.__class__") "__get__" = some (some (.builtin "getset_descriptor.__get__"))) (htk : PySem.W.takesIn K (.builtin "object.__class__") = some true) (hm : PySem.W.mroIn K C (.type "object") = some true)
    (hne : PySem.W.findIn K (.ref C) "__ne__" = some (some (.builtin "object.__ne__")))
    (n0 : PySem.W.findIn K (.ref C) "_base" = some none)
    (n1 : PySem.W.findIn K (.ref C) "_width" = some none)
    (n2 : PySem.W.findIn K (.ref C) "_steps" = some none)
    (n3 : PySem.W.findIn K (.ref C) "_pieces" = some none)
    (n4 : PySem.W.findIn K (.ref C) "_piece_epochs" = some none)
    (n5 : PySem.W.findIn K (.ref C) "_epochs" = some none)
    (aCS : PySem.W.nsIn K mainGlobals "State" = some (some (.ref S)))
    (a47 : PySem.W.findIn K (.ref S) "__init__" = some (some (.ref f47))) (i47 : PySem.W.isFn K (.ref f47) = true) (l47 : K.lookup f47 = some ⟨oc47, od47, .func (PySem.W.fnOf "__init__" "State.__init__" (defArgs s_State___init) (defBody s_State___init) (defScope s_State___init) .none kV47 dc47 pm47 an47 cd47 ct47), sl47⟩) (c47 : PySem.W.codeIn K cd47 "State.__init__" = true) (k47 : PySem.W.keepIn K (.ref f47) = true)
    (a48 : PySem.W.findIn K (.ref S) "behind_arrival" = some (some (.ref f48))) (i48 : PySem.W.isFn K (.ref f48) = true) (l48 : K.lookup f48 = some ⟨oc48, od48, .func (PySem.W.fnOf "behind_arrival" "State.behind_arrival" (defArgs s_State_behind_arrival) (defBody s_State_behind_arrival) (defScope s_State_behind_arrival) .none kV48 dc48 pm48 an48 cd48 ct48), sl48⟩) (c48 : PySem.W.codeIn K cd48 "State.behind_arrival" = true) (k48 : PySem.W.keepIn K (.ref f48) = true)
    (a49 : PySem.W.findIn K (.ref S) "behind_step" = some (some (.ref f49))) (i49 : PySem.W.isFn K (.ref f49) = true) (l49 : K.lookup f49 = some ⟨oc49, od49, .func (PySem.W.fnOf "behind_step" "State.behind_step" (defArgs s_State_behind_step) (defBody s_State_behind_step) (defScope s_State_behind_step) .none kV49 dc49 pm49 an49 cd49 ct49), sl49⟩) (c49 : PySem.W.codeIn K cd49 "State.behind_step" = true) (k49 : PySem.W.keepIn K (.ref f49) = true)
    (a50 : PySem.W.findIn K (.ref S) "behind_loss" = some (some (.ref f50))) (i50 : PySem.W.isFn K (.ref f50) = true) (l50 : K.lookup f50 = some ⟨oc50, od50, .func (PySem.W.fnOf "behind_loss" "State.behind_loss" (defArgs s_State_behind_loss) (defBody s_State_behind_loss) (defScope s_State_behind_loss) .none kV50 dc50 pm50 an50 cd50 ct50), sl50⟩) (c50 : PySem.W.codeIn K cd50 "State.behind_loss" = true) (k50 : PySem.W.keepIn K (.ref f50) = true)
    (pgS : PySem.W.plainGet K S Str.empty = true)
    (hdS : PySem.W.hasDictIn K S = true)
    (poS : PySem.W.plainOver K S = true)
    (saS : PySem.W.findIn K (.ref S) "__setattr__" = some (some (.builtin "object.__setattr__")))
    (mkS : PySem.W.makesIn K S = true)
    (kcS : PySem.W.keepIn K (.ref S) = true)
    (nS0 : PySem.W.findIn K (.ref S) "active" = some none)
    (nS1 : PySem.W.findIn K (.ref S) "ranks" = some none)
    (nS2 : PySem.W.findIn K (.ref S) "arrived" = some none)
    (nS3 : PySem.W.findIn K (.ref S) "held" = some none)
    (aCR : PySem.W.nsIn K mainGlobals "Store" = some (some (.ref R)))
    (a51 : PySem.W.findIn K (.ref R) "__init__" = some (some (.ref f51))) (i51 : PySem.W.isFn K (.ref f51) = true) (l51 : K.lookup f51 = some ⟨oc51, od51, .func (PySem.W.fnOf "__init__" "Store.__init__" (defArgs s_Store___init) (defBody s_Store___init) (defScope s_Store___init) .none kV51 dc51 pm51 an51 cd51 ct51), sl51⟩) (c51 : PySem.W.codeIn K cd51 "Store.__init__" = true) (k51 : PySem.W.keepIn K (.ref f51) = true)
    (a52 : PySem.W.findIn K (.ref R) "_go_on" = some (some (.ref f52))) (i52 : PySem.W.isFn K (.ref f52) = true) (l52 : K.lookup f52 = some ⟨oc52, od52, .func (PySem.W.fnOf "_go_on" "Store._go_on" (defArgs s_Store__go_on) (defBody s_Store__go_on) (defScope s_Store__go_on) .none kV52 dc52 pm52 an52 cd52 ct52), sl52⟩) (c52 : PySem.W.codeIn K cd52 "Store._go_on" = true) (k52 : PySem.W.keepIn K (.ref f52) = true)
    (a53 : PySem.W.findIn K (.ref R) "write" = some (some (.ref f53))) (i53 : PySem.W.isFn K (.ref f53) = true) (l53 : K.lookup f53 = some ⟨oc53, od53, .func (PySem.W.fnOf "write" "Store.write" (defArgs s_Store_write) (defBody s_Store_write) (defScope s_Store_write) .none kV53 dc53 pm53 an53 cd53 ct53), sl53⟩) (c53 : PySem.W.codeIn K cd53 "Store.write" = true) (k53 : PySem.W.keepIn K (.ref f53) = true)
    (a54 : PySem.W.findIn K (.ref R) "barrier" = some (some (.ref f54))) (i54 : PySem.W.isFn K (.ref f54) = true) (l54 : K.lookup f54 = some ⟨oc54, od54, .func (PySem.W.fnOf "barrier" "Store.barrier" (defArgs s_Store_barrier) (defBody s_Store_barrier) (defScope s_Store_barrier) .none kV54 dc54 pm54 an54 cd54 ct54), sl54⟩) (c54 : PySem.W.codeIn K cd54 "Store.barrier" = true) (k54 : PySem.W.keepIn K (.ref f54) = true)
    (a55 : PySem.W.findIn K (.ref R) "arrive" = some (some (.ref f55))) (i55 : PySem.W.isFn K (.ref f55) = true) (l55 : K.lookup f55 = some ⟨oc55, od55, .func (PySem.W.fnOf "arrive" "Store.arrive" (defArgs s_Store_arrive) (defBody s_Store_arrive) (defScope s_Store_arrive) .none kV55 dc55 pm55 an55 cd55 ct55), sl55⟩) (c55 : PySem.W.codeIn K cd55 "Store.arrive" = true) (k55 : PySem.W.keepIn K (.ref f55) = true)
    (a56 : PySem.W.findIn K (.ref R) "lose" = some (some (.ref f56))) (i56 : PySem.W.isFn K (.ref f56) = true) (l56 : K.lookup f56 = some ⟨oc56, od56, .func (PySem.W.fnOf "lose" "Store.lose" (defArgs s_Store_lose) (defBody s_Store_lose) (defScope s_Store_lose) .none kV56 dc56 pm56 an56 cd56 ct56), sl56⟩) (c56 : PySem.W.codeIn K cd56 "Store.lose" = true) (k56 : PySem.W.keepIn K (.ref f56) = true)
    (a57 : PySem.W.findIn K (.ref R) "undo" = some (some (.ref f57))) (i57 : PySem.W.isFn K (.ref f57) = true) (l57 : K.lookup f57 = some ⟨oc57, od57, .func (PySem.W.fnOf "undo" "Store.undo" (defArgs s_Store_undo) (defBody s_Store_undo) (defScope s_Store_undo) .none kV57 dc57 pm57 an57 cd57 ct57), sl57⟩) (c57 : PySem.W.codeIn K cd57 "Store.undo" = true) (k57 : PySem.W.keepIn K (.ref f57) = true)
    (a58 : PySem.W.findIn K (.ref R) "__len__" = some (some (.ref f58))) (i58 : PySem.W.isFn K (.ref f58) = true) (l58 : K.lookup f58 = some ⟨oc58, od58, .func (PySem.W.fnOf "__len__" "Store.__len__" (defArgs s_Store___len) (defBody s_Store___len) (defScope s_Store___len) .none kV58 dc58 pm58 an58 cd58 ct58), sl58⟩) (c58 : PySem.W.codeIn K cd58 "Store.__len__" = true) (k58 : PySem.W.keepIn K (.ref f58) = true)
    (a59 : PySem.W.findIn K (.ref R) "plan" = some (some (.ref pp59))) (i59 : PySem.W.specialIn K (.ref pp59) "__get__" = some (some (.builtin "property.__get__"))) (j59 : PySem.W.takesIn K (.ref pp59) = some true) (r59 : PySem.W.recIn K pp59 "property" = some (.ref f59 :: pr59)) (l59 : K.lookup f59 = some ⟨oc59, od59, .func (PySem.W.fnOf "plan" "Store.plan" (defArgs s_Store_plan) (defBody s_Store_plan) (defScope s_Store_plan) .none kV59 dc59 pm59 an59 cd59 ct59), sl59⟩) (c59 : PySem.W.codeIn K cd59 "Store.plan" = true) (k59 : PySem.W.keepIn K (.ref f59) = true)
    (a60 : PySem.W.findIn K (.ref R) "came" = some (some (.ref pp60))) (i60 : PySem.W.specialIn K (.ref pp60) "__get__" = some (some (.builtin "property.__get__"))) (j60 : PySem.W.takesIn K (.ref pp60) = some true) (r60 : PySem.W.recIn K pp60 "property" = some (.ref f60 :: pr60)) (l60 : K.lookup f60 = some ⟨oc60, od60, .func (PySem.W.fnOf "came" "Store.came" (defArgs s_Store_came) (defBody s_Store_came) (defScope s_Store_came) .none kV60 dc60 pm60 an60 cd60 ct60), sl60⟩) (c60 : PySem.W.codeIn K cd60 "Store.came" = true) (k60 : PySem.W.keepIn K (.ref f60) = true)
    (a61 : PySem.W.findIn K (.ref R) "content" = some (some (.ref pp61))) (i61 : PySem.W.specialIn K (.ref pp61) "__get__" = some (some (.builtin "property.__get__"))) (j61 : PySem.W.takesIn K (.ref pp61) = some true) (r61 : PySem.W.recIn K pp61 "property" = some (.ref f61 :: pr61)) (l61 : K.lookup f61 = some ⟨oc61, od61, .func (PySem.W.fnOf "content" "Store.content" (defArgs s_Store_content) (defBody s_Store_content) (defScope s_Store_content) .none kV61 dc61 pm61 an61 cd61 ct61), sl61⟩) (c61 : PySem.W.codeIn K cd61 "Store.content" = true) (k61 : PySem.W.keepIn K (.ref f61) = true)
    (a62 : PySem.W.findIn K (.ref R) "ready" = some (some (.ref pp62))) (i62 : PySem.W.specialIn K (.ref pp62) "__get__" = some (some (.builtin "property.__get__"))) (j62 : PySem.W.takesIn K (.ref pp62) = some true) (r62 : PySem.W.recIn K pp62 "property" = some (.ref f62 :: pr62)) (l62 : K.lookup f62 = some ⟨oc62, od62, .func (PySem.W.fnOf "ready" "Store.ready" (defArgs s_Store_ready) (defBody s_Store_ready) (defScope s_Store_ready) .none kV62 dc62 pm62 an62 cd62 ct62), sl62⟩) (c62 : PySem.W.codeIn K cd62 "Store.ready" = true) (k62 : PySem.W.keepIn K (.ref f62) = true)
    (pgR : PySem.W.plainGet K R Str.empty = true)
    (hdR : PySem.W.hasDictIn K R = true)
    (poR : PySem.W.plainOver K R = true)
    (saR : PySem.W.findIn K (.ref R) "__setattr__" = some (some (.builtin "object.__setattr__")))
    (mkR : PySem.W.makesIn K R = true)
    (kcR : PySem.W.keepIn K (.ref R) = true)
    (nR0 : PySem.W.findIn K (.ref R) "_now" = some none)
    (nR1 : PySem.W.findIn K (.ref R) "_earlier" = some none)
    (neSR : (Value.ref S == Value.ref R) = false)
    (neCR : (Value.ref C == Value.ref R) = false)
    (gCF : PySem.W.nsIn K mainGlobals "FallError" = some (some (.ref CF)))
    (gIS : PySem.W.nsIn K mainGlobals "InvalidStep" = some (some (.ref IS)))
    (gEM : PySem.W.nsIn K mainGlobals "TooMany" = some (some (.ref EM)))
    (gEU : PySem.W.nsIn K mainGlobals "UnknownPiece" = some (some (.ref EU)))
    (gEA : PySem.W.nsIn K mainGlobals "Arrived" = some (some (.ref EA)))
    (gEE : PySem.W.nsIn K mainGlobals "TooEarly" = some (some (.ref EE)))
    (gEN : PySem.W.nsIn K mainGlobals "NothingToUndo" = some (some (.ref EN)))
    (gIT : PySem.W.nsIn K mainGlobals "InvalidPattern" = some (some (.ref IT)))
    (gIL : PySem.W.nsIn K mainGlobals "InvalidPlan" = some (some (.ref IL)))
    (yb : PySem.W.subIn K (.ref CF) (.type "BaseException") = some true)
    (yd : PySem.W.hasDictIn K CF = true)
    (yt : PySem.W.typeIn K (.ref CF) = some (.type "type"))
    (c1EA : PySem.W.isClsIn K EA = true)
    (c2EA : PySem.W.typeIn K (.ref EA) = some (.type "type"))
    (c1EE : PySem.W.isClsIn K EE = true)
    (c2EE : PySem.W.typeIn K (.ref EE) = some (.type "type"))
    (c1EM : PySem.W.isClsIn K EM = true)
    (c2EM : PySem.W.typeIn K (.ref EM) = some (.type "type"))
    (c1EN : PySem.W.isClsIn K EN = true)
    (c2EN : PySem.W.typeIn K (.ref EN) = some (.type "type"))
    (c1EU : PySem.W.isClsIn K EU = true)
    (c2EU : PySem.W.typeIn K (.ref EU) = some (.type "type"))
    (c1IL : PySem.W.isClsIn K IL = true)
    (c2IL : PySem.W.typeIn K (.ref IL) = some (.type "type"))
    (c1IS : PySem.W.isClsIn K IS = true)
    (c2IS : PySem.W.typeIn K (.ref IS) = some (.type "type"))
    (c1IT : PySem.W.isClsIn K IT = true)
    (c2IT : PySem.W.typeIn K (.ref IT) = some (.type "type"))
    (xxIS : PySem.W.excIn K IS [.type "ValueError", .type "Exception", .type "BaseException", .type "object"] "ValueError.__new__" = true)
    (xkIS : PySem.W.keepIn K (.ref IS) = true)
    (xbIS : PySem.W.subIn K (.ref IS) (.type "BaseException") = some true)
    (xtIS : PySem.W.typeIn K (.ref IS) = some (.type "type"))
    (xdIS : PySem.W.hasDictIn K IS = true)
    (xcIS : PySem.W.findIn K (.ref IS) "__class__" = some (some (.builtin "object.__class__")))
    (xmIS : PySem.W.mroIn K IS (.type "object") = some true)
    (xgaIS : PySem.W.findIn K (.ref IS) "__getattribute__" = some (some (.builtin "BaseException.__getattribute__")))
    (xgtIS : PySem.W.findIn K (.ref IS) "__getattr__" = some none)
    (yeIS : PySem.W.subIn K (.ref IS) (.ref CF) = some true)
    (xvIS : PySem.W.subIn K (.ref IS) (.type "ValueError") = some true)
    (noISEM : PySem.W.subIn K (.ref IS) (.ref EM) = some false)
    (neISEM : (Value.ref IS == Value.ref EM) = false)
    (noISEU : PySem.W.subIn K (.ref IS) (.ref EU) = some false)
    (neISEU : (Value.ref IS == Value.ref EU) = false)
    (noISEA : PySem.W.subIn K (.ref IS) (.ref EA) = some false)
    (neISEA : (Value.ref IS == Value.ref EA) = false)
    (noISEE : PySem.W.subIn K (.ref IS) (.ref EE) = some false)
    (neISEE : (Value.ref IS == Value.ref EE) = false)
    (noISEN : PySem.W.subIn K (.ref IS) (.ref EN) = some false)
    (neISEN : (Value.ref IS == Value.ref EN) = false)
    (noISIT : PySem.W.subIn K (.ref IS) (.ref IT) = some false)
    (neISIT : (Value.ref IS == Value.ref IT) = false)
    (noISIL : PySem.W.subIn K (.ref IS) (.ref IL) = some false)
    (neISIL : (Value.ref IS == Value.ref IL) = false)
    (xxEM : PySem.W.excIn K EM [.type "ValueError", .type "Exception", .type "BaseException", .type "object"] "ValueError.__new__" = true)
    (xkEM : PySem.W.keepIn K (.ref EM) = true)
    (xbEM : PySem.W.subIn K (.ref EM) (.type "BaseException") = some true)
    (xtEM : PySem.W.typeIn K (.ref EM) = some (.type "type"))
    (xdEM : PySem.W.hasDictIn K EM = true)
    (xcEM : PySem.W.findIn K (.ref EM) "__class__" = some (some (.builtin "object.__class__")))
    (xmEM : PySem.W.mroIn K EM (.type "object") = some true)
    (xgaEM : PySem.W.findIn K (.ref EM) "__getattribute__" = some (some (.builtin "BaseException.__getattribute__")))
    (xgtEM : PySem.W.findIn K (.ref EM) "__getattr__" = some none)
    (yeEM : PySem.W.subIn K (.ref EM) (.ref CF) = some true)
    (xvEM : PySem.W.subIn K (.ref EM) (.type "ValueError") = some true)
    (noEMIS : PySem.W.subIn K (.ref EM) (.ref IS) = some false)
    (neEMIS : (Value.ref EM == Value.ref IS) = false)
    (noEMEU : PySem.W.subIn K (.ref EM) (.ref EU) = some false)
    (neEMEU : (Value.ref EM == Value.ref EU) = false)
    (noEMEA : PySem.W.subIn K (.ref EM) (.ref EA) = some false)
    (neEMEA : (Value.ref EM == Value.ref EA) = false)
    (noEMEE : PySem.W.subIn K (.ref EM) (.ref EE) = some false)
    (neEMEE : (Value.ref EM == Value.ref EE) = false)
    (noEMEN : PySem.W.subIn K (.ref EM) (.ref EN) = some false)
    (neEMEN : (Value.ref EM == Value.ref EN) = false)
    (noEMIT : PySem.W.subIn K (.ref EM) (.ref IT) = some false)
    (neEMIT : (Value.ref EM == Value.ref IT) = false)
    (noEMIL : PySem.W.subIn K (.ref EM) (.ref IL) = some false)
    (neEMIL : (Value.ref EM == Value.ref IL) = false)
    (xxEU : PySem.W.excIn K EU [.type "ValueError", .type "Exception", .type "BaseException", .type "object"] "ValueError.__new__" = true)
    (xkEU : PySem.W.keepIn K (.ref EU) = true)
    (xbEU : PySem.W.subIn K (.ref EU) (.type "BaseException") = some true)
    (xtEU : PySem.W.typeIn K (.ref EU) = some (.type "type"))
    (xdEU : PySem.W.hasDictIn K EU = true)
    (xcEU : PySem.W.findIn K (.ref EU) "__class__" = some (some (.builtin "object.__class__")))
    (xmEU : PySem.W.mroIn K EU (.type "object") = some true)
    (xgaEU : PySem.W.findIn K (.ref EU) "__getattribute__" = some (some (.builtin "BaseException.__getattribute__")))
    (xgtEU : PySem.W.findIn K (.ref EU) "__getattr__" = some none)
    (yeEU : PySem.W.subIn K (.ref EU) (.ref CF) = some true)
    (xvEU : PySem.W.subIn K (.ref EU) (.type "ValueError") = some true)
    (noEUIS : PySem.W.subIn K (.ref EU) (.ref IS) = some false)
    (neEUIS : (Value.ref EU == Value.ref IS) = false)
    (noEUEM : PySem.W.subIn K (.ref EU) (.ref EM) = some false)
    (neEUEM : (Value.ref EU == Value.ref EM) = false)
    (noEUEA : PySem.W.subIn K (.ref EU) (.ref EA) = some false)
    (neEUEA : (Value.ref EU == Value.ref EA) = false)
    (noEUEE : PySem.W.subIn K (.ref EU) (.ref EE) = some false)
    (neEUEE : (Value.ref EU == Value.ref EE) = false)
    (noEUEN : PySem.W.subIn K (.ref EU) (.ref EN) = some false)
    (neEUEN : (Value.ref EU == Value.ref EN) = false)
    (noEUIT : PySem.W.subIn K (.ref EU) (.ref IT) = some false)
    (neEUIT : (Value.ref EU == Value.ref IT) = false)
    (noEUIL : PySem.W.subIn K (.ref EU) (.ref IL) = some false)
    (neEUIL : (Value.ref EU == Value.ref IL) = false)
    (xxEA : PySem.W.excIn K EA [.type "ValueError", .type "Exception", .type "BaseException", .type "object"] "ValueError.__new__" = true)
    (xkEA : PySem.W.keepIn K (.ref EA) = true)
    (xbEA : PySem.W.subIn K (.ref EA) (.type "BaseException") = some true)
    (xtEA : PySem.W.typeIn K (.ref EA) = some (.type "type"))
    (xdEA : PySem.W.hasDictIn K EA = true)
    (xcEA : PySem.W.findIn K (.ref EA) "__class__" = some (some (.builtin "object.__class__")))
    (xmEA : PySem.W.mroIn K EA (.type "object") = some true)
    (xgaEA : PySem.W.findIn K (.ref EA) "__getattribute__" = some (some (.builtin "BaseException.__getattribute__")))
    (xgtEA : PySem.W.findIn K (.ref EA) "__getattr__" = some none)
    (yeEA : PySem.W.subIn K (.ref EA) (.ref CF) = some true)
    (xvEA : PySem.W.subIn K (.ref EA) (.type "ValueError") = some true)
    (noEAIS : PySem.W.subIn K (.ref EA) (.ref IS) = some false)
    (neEAIS : (Value.ref EA == Value.ref IS) = false)
    (noEAEM : PySem.W.subIn K (.ref EA) (.ref EM) = some false)
    (neEAEM : (Value.ref EA == Value.ref EM) = false)
    (noEAEU : PySem.W.subIn K (.ref EA) (.ref EU) = some false)
    (neEAEU : (Value.ref EA == Value.ref EU) = false)
    (noEAEE : PySem.W.subIn K (.ref EA) (.ref EE) = some false)
    (neEAEE : (Value.ref EA == Value.ref EE) = false)
    (noEAEN : PySem.W.subIn K (.ref EA) (.ref EN) = some false)
    (neEAEN : (Value.ref EA == Value.ref EN) = false)
    (noEAIT : PySem.W.subIn K (.ref EA) (.ref IT) = some false)
    (neEAIT : (Value.ref EA == Value.ref IT) = false)
    (noEAIL : PySem.W.subIn K (.ref EA) (.ref IL) = some false)
    (neEAIL : (Value.ref EA == Value.ref IL) = false)
    (xxEE : PySem.W.excIn K EE [.type "ValueError", .type "Exception", .type "BaseException", .type "object"] "ValueError.__new__" = true)
    (xkEE : PySem.W.keepIn K (.ref EE) = true)
    (xbEE : PySem.W.subIn K (.ref EE) (.type "BaseException") = some true)
    (xtEE : PySem.W.typeIn K (.ref EE) = some (.type "type"))
    (xdEE : PySem.W.hasDictIn K EE = true)
    (xcEE : PySem.W.findIn K (.ref EE) "__class__" = some (some (.builtin "object.__class__")))
    (xmEE : PySem.W.mroIn K EE (.type "object") = some true)
    (xgaEE : PySem.W.findIn K (.ref EE) "__getattribute__" = some (some (.builtin "BaseException.__getattribute__")))
    (xgtEE : PySem.W.findIn K (.ref EE) "__getattr__" = some none)
    (yeEE : PySem.W.subIn K (.ref EE) (.ref CF) = some true)
    (xvEE : PySem.W.subIn K (.ref EE) (.type "ValueError") = some true)
    (noEEIS : PySem.W.subIn K (.ref EE) (.ref IS) = some false)
    (neEEIS : (Value.ref EE == Value.ref IS) = false)
    (noEEEM : PySem.W.subIn K (.ref EE) (.ref EM) = some false)
    (neEEEM : (Value.ref EE == Value.ref EM) = false)
    (noEEEU : PySem.W.subIn K (.ref EE) (.ref EU) = some false)
    (neEEEU : (Value.ref EE == Value.ref EU) = false)
    (noEEEA : PySem.W.subIn K (.ref EE) (.ref EA) = some false)
    (neEEEA : (Value.ref EE == Value.ref EA) = false)
    (noEEEN : PySem.W.subIn K (.ref EE) (.ref EN) = some false)
    (neEEEN : (Value.ref EE == Value.ref EN) = false)
    (noEEIT : PySem.W.subIn K (.ref EE) (.ref IT) = some false)
    (neEEIT : (Value.ref EE == Value.ref IT) = false)
    (noEEIL : PySem.W.subIn K (.ref EE) (.ref IL) = some false)
    (neEEIL : (Value.ref EE == Value.ref IL) = false)
    (xxEN : PySem.W.excIn K EN [.type "ValueError", .type "Exception", .type "BaseException", .type "object"] "ValueError.__new__" = true)
    (xkEN : PySem.W.keepIn K (.ref EN) = true)
    (xbEN : PySem.W.subIn K (.ref EN) (.type "BaseException") = some true)
    (xtEN : PySem.W.typeIn K (.ref EN) = some (.type "type"))
    (xdEN : PySem.W.hasDictIn K EN = true)
    (xcEN : PySem.W.findIn K (.ref EN) "__class__" = some (some (.builtin "object.__class__")))
    (xmEN : PySem.W.mroIn K EN (.type "object") = some true)
    (xgaEN : PySem.W.findIn K (.ref EN) "__getattribute__" = some (some (.builtin "BaseException.__getattribute__")))
    (xgtEN : PySem.W.findIn K (.ref EN) "__getattr__" = some none)
    (yeEN : PySem.W.subIn K (.ref EN) (.ref CF) = some true)
    (xvEN : PySem.W.subIn K (.ref EN) (.type "ValueError") = some true)
    (noENIS : PySem.W.subIn K (.ref EN) (.ref IS) = some false)
    (neENIS : (Value.ref EN == Value.ref IS) = false)
    (noENEM : PySem.W.subIn K (.ref EN) (.ref EM) = some false)
    (neENEM : (Value.ref EN == Value.ref EM) = false)
    (noENEU : PySem.W.subIn K (.ref EN) (.ref EU) = some false)
    (neENEU : (Value.ref EN == Value.ref EU) = false)
    (noENEA : PySem.W.subIn K (.ref EN) (.ref EA) = some false)
    (neENEA : (Value.ref EN == Value.ref EA) = false)
    (noENEE : PySem.W.subIn K (.ref EN) (.ref EE) = some false)
    (neENEE : (Value.ref EN == Value.ref EE) = false)
    (noENIT : PySem.W.subIn K (.ref EN) (.ref IT) = some false)
    (neENIT : (Value.ref EN == Value.ref IT) = false)
    (noENIL : PySem.W.subIn K (.ref EN) (.ref IL) = some false)
    (neENIL : (Value.ref EN == Value.ref IL) = false)
    (xxIT : PySem.W.excIn K IT [.type "ValueError", .type "Exception", .type "BaseException", .type "object"] "ValueError.__new__" = true)
    (xkIT : PySem.W.keepIn K (.ref IT) = true)
    (xbIT : PySem.W.subIn K (.ref IT) (.type "BaseException") = some true)
    (xtIT : PySem.W.typeIn K (.ref IT) = some (.type "type"))
    (xdIT : PySem.W.hasDictIn K IT = true)
    (xcIT : PySem.W.findIn K (.ref IT) "__class__" = some (some (.builtin "object.__class__")))
    (xmIT : PySem.W.mroIn K IT (.type "object") = some true)
    (xgaIT : PySem.W.findIn K (.ref IT) "__getattribute__" = some (some (.builtin "BaseException.__getattribute__")))
    (xgtIT : PySem.W.findIn K (.ref IT) "__getattr__" = some none)
    (yeIT : PySem.W.subIn K (.ref IT) (.ref CF) = some true)
    (xvIT : PySem.W.subIn K (.ref IT) (.type "ValueError") = some true)
    (noITIS : PySem.W.subIn K (.ref IT) (.ref IS) = some false)
    (neITIS : (Value.ref IT == Value.ref IS) = false)
    (noITEM : PySem.W.subIn K (.ref IT) (.ref EM) = some false)
    (neITEM : (Value.ref IT == Value.ref EM) = false)
    (noITEU : PySem.W.subIn K (.ref IT) (.ref EU) = some false)
    (neITEU : (Value.ref IT == Value.ref EU) = false)
    (noITEA : PySem.W.subIn K (.ref IT) (.ref EA) = some false)
    (neITEA : (Value.ref IT == Value.ref EA) = false)
    (noITEE : PySem.W.subIn K (.ref IT) (.ref EE) = some false)
    (neITEE : (Value.ref IT == Value.ref EE) = false)
    (noITEN : PySem.W.subIn K (.ref IT) (.ref EN) = some false)
    (neITEN : (Value.ref IT == Value.ref EN) = false)
    (noITIL : PySem.W.subIn K (.ref IT) (.ref IL) = some false)
    (neITIL : (Value.ref IT == Value.ref IL) = false)
    (xxIL : PySem.W.excIn K IL [.type "ValueError", .type "Exception", .type "BaseException", .type "object"] "ValueError.__new__" = true)
    (xkIL : PySem.W.keepIn K (.ref IL) = true)
    (xbIL : PySem.W.subIn K (.ref IL) (.type "BaseException") = some true)
    (xtIL : PySem.W.typeIn K (.ref IL) = some (.type "type"))
    (xdIL : PySem.W.hasDictIn K IL = true)
    (xcIL : PySem.W.findIn K (.ref IL) "__class__" = some (some (.builtin "object.__class__")))
    (xmIL : PySem.W.mroIn K IL (.type "object") = some true)
    (xgaIL : PySem.W.findIn K (.ref IL) "__getattribute__" = some (some (.builtin "BaseException.__getattribute__")))
    (xgtIL : PySem.W.findIn K (.ref IL) "__getattr__" = some none)
    (yeIL : PySem.W.subIn K (.ref IL) (.ref CF) = some true)
    (xvIL : PySem.W.subIn K (.ref IL) (.type "ValueError") = some true)
    (noILIS : PySem.W.subIn K (.ref IL) (.ref IS) = some false)
    (neILIS : (Value.ref IL == Value.ref IS) = false)
    (noILEM : PySem.W.subIn K (.ref IL) (.ref EM) = some false)
    (neILEM : (Value.ref IL == Value.ref EM) = false)
    (noILEU : PySem.W.subIn K (.ref IL) (.ref EU) = some false)
    (neILEU : (Value.ref IL == Value.ref EU) = false)
    (noILEA : PySem.W.subIn K (.ref IL) (.ref EA) = some false)
    (neILEA : (Value.ref IL == Value.ref EA) = false)
    (noILEE : PySem.W.subIn K (.ref IL) (.ref EE) = some false)
    (neILEE : (Value.ref IL == Value.ref EE) = false)
    (noILEN : PySem.W.subIn K (.ref IL) (.ref EN) = some false)
    (neILEN : (Value.ref IL == Value.ref EN) = false)
    (noILIT : PySem.W.subIn K (.ref IL) (.ref IT) = some false)
    (neILIT : (Value.ref IL == Value.ref IT) = false)
    (zr : PySem.W.nsIn K mainGlobals "repr" = some none)
    (z0 : PySem.W.nsIn K mainGlobals "len" = some none)
    (z1 : PySem.W.nsIn K mainGlobals "int" = some none)
    (z2 : PySem.W.nsIn K mainGlobals "list" = some none)
    (z3 : PySem.W.nsIn K mainGlobals "tuple" = some none)
    (z4 : PySem.W.nsIn K mainGlobals "range" = some none)
    (z5 : PySem.W.nsIn K mainGlobals "min" = some none)
    (z6 : PySem.W.nsIn K mainGlobals "all" = some none)
    (z7 : PySem.W.nsIn K mainGlobals "enumerate" = some none)
    (z8 : PySem.W.nsIn K mainGlobals "zip" = some none)
    (z9 : PySem.W.nsIn K mainGlobals "isinstance" = some none)
    (z10 : PySem.W.nsIn K mainGlobals "bool" = some none)
    (ValueError : PySem.W.nsIn K mainGlobals "ValueError" = some none)
    (dict : PySem.W.nsIn K mainGlobals "dict" = some none)
    (m0 : PySem.W.nsIn K mainGlobals "MOST_CELLS" = some (some (.int 24 tk0)))
    (m1 : PySem.W.nsIn K mainGlobals "MOST_STEPS" = some (some (.int 40 tk1)))
    (m2 : PySem.W.nsIn K mainGlobals "MOST_PIECES" = some (some (.int 40 tk2)))
    (u0 : PySem.W.nsIn K mainGlobals "ALL_WORTHS" = some (some (.ref ta0))) (w0 : K.lookup ta0 = some ⟨.type "tuple", td0, .seq ti0 tn0, ts0⟩) (x0 : ti0.size ≤ sizeLine) (y0 : Vals (ivs [0, 1, 2, 3, 4, 5, 6, 7]) ti0.toList) :
    ∃ fd : FuncData, (∀ (s : Shared) (v : Value), BindsTo s fd ⟨[v], []⟩ [("_law_script", v)]) ∧ ∀ base : Heap, K.In base → base.Ns mainGlobals mg → FnG l.prog w K mg base 15 fa fd ["_law_script"] (sp_law K) := by
  have e := hfa.symm.trans (PySem.W.mg_of X G a38)
  cases e
  have T : Txt mg := ⟨PySem.W.mg_none_of X G z0, PySem.W.mg_none_of X G z1, PySem.W.mg_none_of X G z2, PySem.W.mg_none_of X G z3, PySem.W.mg_none_of X G z4, PySem.W.mg_none_of X G z5, PySem.W.mg_none_of X G z6, PySem.W.mg_none_of X G z7, PySem.W.mg_none_of X G z8, PySem.W.mg_none_of X G z9, PySem.W.mg_none_of X G z10⟩
  have CK : Cst K mg := ⟨⟨_, PySem.W.mg_of X G m0⟩, ⟨_, PySem.W.mg_of X G m1⟩, ⟨_, PySem.W.mg_of X G m2⟩, ⟨_, PySem.W.mg_of X G u0, fun H => .inr ⟨_, ti0, tn0, w0, rfl, rfl, x0, y0⟩⟩⟩
  have TC : PlanC K mg C := ⟨⟨pg, hd, po, sa⟩, n0, n1, n2, n3, n4, n5, PySem.W.mg_of X G aC, is_own, fun n hn => is_not hn ic tc, fun n hn => first_not hn, ha, hn, htk, hm⟩
  have F_Plan___init := fun_mk (st := s_Plan___init) l39 c39 k39
  have b_Plan___init := F_Plan___init.binds (ps := ["self", "base", "width", "steps"]) fun _ _ _ _ _ _ us hl => match us, hl with | [_, _, _, _], _ => rfl
  have M_Plan___init : Mk K C f39 := ⟨mk, a39, i39, kc⟩
  have F_Plan___eq := fun_mk (st := s_Plan___eq) l40 c40 k40
  have b_Plan___eq := F_Plan___eq.binds (ps := ["self", "other"]) fun _ _ _ _ _ _ us hl => match us, hl with | [_, _], _ => rfl
  have M_Plan___eq : Meth K C "__eq__" f40 := ⟨a40, i40, k40⟩
  have F_Plan_epoch_of := fun_mk (st := s_Plan_epoch_of) l41 c41 k41
  have b_Plan_epoch_of := F_Plan_epoch_of.binds (ps := ["self", "piece"]) fun _ _ _ _ _ _ us hl => match us, hl with | [_, _], _ => rfl
  have M_Plan_epoch_of : Meth K C "epoch_of" f41 := ⟨a41, i41, k41⟩
  have O : OwnEqC K C f40 := ⟨a40, i40, hne, hm⟩
  have TS : ObjC K mg "State" S SN := ⟨⟨pgS, hdS, poS, saS⟩, (by unfold SN; intro x hx; simp only [List.mem_cons, List.not_mem_nil, or_false] at hx; rcases hx with rfl | rfl | rfl | rfl <;> assumption), PySem.W.mg_of X G aCS⟩
  have F_State___init := fun_mk (st := s_State___init) l47 c47 k47
  have b_State___init := F_State___init.binds (ps := ["self", "active", "ranks", "arrived", "held"]) fun _ _ _ _ _ _ us hl => match us, hl with | [_, _, _, _, _], _ => rfl
  have M_State___init : Mk K S f47 := ⟨mkS, a47, i47, kcS⟩
  have F_State_behind_arrival := fun_mk (st := s_State_behind_arrival) l48 c48 k48
  have b_State_behind_arrival := F_State_behind_arrival.binds (ps := ["self", "piece"]) fun _ _ _ _ _ _ us hl => match us, hl with | [_, _], _ => rfl
  have M_State_behind_arrival : Meth K S "behind_arrival" f48 := ⟨a48, i48, k48⟩
  have F_State_behind_step := fun_mk (st := s_State_behind_step) l49 c49 k49
  have b_State_behind_step := F_State_behind_step.binds (ps := ["self", "step"]) fun _ _ _ _ _ _ us hl => match us, hl with | [_, _], _ => rfl
  have M_State_behind_step : Meth K S "behind_step" f49 := ⟨a49, i49, k49⟩
  have F_State_behind_loss := fun_mk (st := s_State_behind_loss) l50 c50 k50
  have b_State_behind_loss := F_State_behind_loss.binds (ps := ["self"]) fun _ _ _ _ _ _ us hl => match us, hl with | [_], _ => rfl
  have M_State_behind_loss : Meth K S "behind_loss" f50 := ⟨a50, i50, k50⟩
  have TR : ObjC K mg "Store" R RN := ⟨⟨pgR, hdR, poR, saR⟩, (by unfold RN; intro x hx; simp only [List.mem_cons, List.not_mem_nil, or_false] at hx; rcases hx with rfl | rfl <;> assumption), PySem.W.mg_of X G aCR⟩
  have F_Store___init := fun_mk (st := s_Store___init) l51 c51 k51
  have b_Store___init := F_Store___init.binds (ps := ["self", "base", "width"]) fun _ _ _ _ _ _ us hl => match us, hl with | [_, _, _], _ => rfl
  have M_Store___init : Mk K R f51 := ⟨mkR, a51, i51, kcR⟩
  have F_Store__go_on := fun_mk (st := s_Store__go_on) l52 c52 k52
  have b_Store__go_on := F_Store__go_on.binds (ps := ["self", "state"]) fun _ _ _ _ _ _ us hl => match us, hl with | [_, _], _ => rfl
  have M_Store__go_on : Meth K R "_go_on" f52 := ⟨a52, i52, k52⟩
  have F_Store_write := fun_mk (st := s_Store_write) l53 c53 k53
  have b_Store_write := F_Store_write.binds (ps := ["self", "first", "worths"]) fun _ _ _ _ _ _ us hl => match us, hl with | [_, _, _], _ => rfl
  have M_Store_write : Meth K R "write" f53 := ⟨a53, i53, k53⟩
  have F_Store_barrier := fun_mk (st := s_Store_barrier) l54 c54 k54
  have b_Store_barrier := F_Store_barrier.binds (ps := ["self"]) fun _ _ _ _ _ _ us hl => match us, hl with | [_], _ => rfl
  have M_Store_barrier : Meth K R "barrier" f54 := ⟨a54, i54, k54⟩
  have F_Store_arrive := fun_mk (st := s_Store_arrive) l55 c55 k55
  have b_Store_arrive := F_Store_arrive.binds (ps := ["self", "piece"]) fun _ _ _ _ _ _ us hl => match us, hl with | [_, _], _ => rfl
  have M_Store_arrive : Meth K R "arrive" f55 := ⟨a55, i55, k55⟩
  have F_Store_lose := fun_mk (st := s_Store_lose) l56 c56 k56
  have b_Store_lose := F_Store_lose.binds (ps := ["self"]) fun _ _ _ _ _ _ us hl => match us, hl with | [_], _ => rfl
  have M_Store_lose : Meth K R "lose" f56 := ⟨a56, i56, k56⟩
  have F_Store_undo := fun_mk (st := s_Store_undo) l57 c57 k57
  have b_Store_undo := F_Store_undo.binds (ps := ["self"]) fun _ _ _ _ _ _ us hl => match us, hl with | [_], _ => rfl
  have M_Store_undo : Meth K R "undo" f57 := ⟨a57, i57, k57⟩
  have F_Store___len := fun_mk (st := s_Store___len) l58 c58 k58
  have b_Store___len := F_Store___len.binds (ps := ["self"]) fun _ _ _ _ _ _ us hl => match us, hl with | [_], _ => rfl
  have M_Store___len : LenC K R f58 := ⟨a58, i58⟩
  have apSR : S ≠ R := fun e => by rw [e] at neSR; simp at neSR
  have apCR : C ≠ R := fun e => by rw [e] at neCR; simp at neCR
  have X_IS : ExcC K mg "InvalidStep" IS := ⟨PySem.W.mg_of X G gIS, xxIS, xkIS, xbIS, xtIS⟩
  have I_IS : L2.ExcC K IS := ⟨xgaIS, xgtIS, xbIS, xdIS, xcIS, hn, htk, xmIS⟩
  have v_IS := is_val xvIS
  have m_IS : PySem.W.exmOne K (.ref IS) (.ref CF) = some true := PySem.W.exm_ref yb yd yt yeIS
  have q_IS_EM : PySem.W.kitOne K (.ref IS) (.ref EM) = some false := is_no c1EM c2EM noISEM neISEM
  have q_IS_EU : PySem.W.kitOne K (.ref IS) (.ref EU) = some false := is_no c1EU c2EU noISEU neISEU
  have q_IS_EA : PySem.W.kitOne K (.ref IS) (.ref EA) = some false := is_no c1EA c2EA noISEA neISEA
  have q_IS_EE : PySem.W.kitOne K (.ref IS) (.ref EE) = some false := is_no c1EE c2EE noISEE neISEE
  have q_IS_EN : PySem.W.kitOne K (.ref IS) (.ref EN) = some false := is_no c1EN c2EN noISEN neISEN
  have q_IS_IT : PySem.W.kitOne K (.ref IS) (.ref IT) = some false := is_no c1IT c2IT noISIT neISIT
  have q_IS_IL : PySem.W.kitOne K (.ref IS) (.ref IL) = some false := is_no c1IL c2IL noISIL neISIL
  have X_EM : ExcC K mg "TooMany" EM := ⟨PySem.W.mg_of X G gEM, xxEM, xkEM, xbEM, xtEM⟩
  have I_EM : L2.ExcC K EM := ⟨xgaEM, xgtEM, xbEM, xdEM, xcEM, hn, htk, xmEM⟩
  have v_EM := is_val xvEM
  have m_EM : PySem.W.exmOne K (.ref EM) (.ref CF) = some true := PySem.W.exm_ref yb yd yt yeEM
  have q_EM_IS : PySem.W.kitOne K (.ref EM) (.ref IS) = some false := is_no c1IS c2IS noEMIS neEMIS
  have q_EM_EU : PySem.W.kitOne K (.ref EM) (.ref EU) = some false := is_no c1EU c2EU noEMEU neEMEU
  have q_EM_EA : PySem.W.kitOne K (.ref EM) (.ref EA) = some false := is_no c1EA c2EA noEMEA neEMEA
  have q_EM_EE : PySem.W.kitOne K (.ref EM) (.ref EE) = some false := is_no c1EE c2EE noEMEE neEMEE
  have q_EM_EN : PySem.W.kitOne K (.ref EM) (.ref EN) = some false := is_no c1EN c2EN noEMEN neEMEN
  have q_EM_IT : PySem.W.kitOne K (.ref EM) (.ref IT) = some false := is_no c1IT c2IT noEMIT neEMIT
  have q_EM_IL : PySem.W.kitOne K (.ref EM) (.ref IL) = some false := is_no c1IL c2IL noEMIL neEMIL
  have X_EU : ExcC K mg "UnknownPiece" EU := ⟨PySem.W.mg_of X G gEU, xxEU, xkEU, xbEU, xtEU⟩
  have I_EU : L2.ExcC K EU := ⟨xgaEU, xgtEU, xbEU, xdEU, xcEU, hn, htk, xmEU⟩
  have v_EU := is_val xvEU
  have m_EU : PySem.W.exmOne K (.ref EU) (.ref CF) = some true := PySem.W.exm_ref yb yd yt yeEU
  have q_EU_IS : PySem.W.kitOne K (.ref EU) (.ref IS) = some false := is_no c1IS c2IS noEUIS neEUIS
  have q_EU_EM : PySem.W.kitOne K (.ref EU) (.ref EM) = some false := is_no c1EM c2EM noEUEM neEUEM
  have q_EU_EA : PySem.W.kitOne K (.ref EU) (.ref EA) = some false := is_no c1EA c2EA noEUEA neEUEA
  have q_EU_EE : PySem.W.kitOne K (.ref EU) (.ref EE) = some false := is_no c1EE c2EE noEUEE neEUEE
  have q_EU_EN : PySem.W.kitOne K (.ref EU) (.ref EN) = some false := is_no c1EN c2EN noEUEN neEUEN
  have q_EU_IT : PySem.W.kitOne K (.ref EU) (.ref IT) = some false := is_no c1IT c2IT noEUIT neEUIT
  have q_EU_IL : PySem.W.kitOne K (.ref EU) (.ref IL) = some false := is_no c1IL c2IL noEUIL neEUIL
  have X_EA : ExcC K mg "Arrived" EA := ⟨PySem.W.mg_of X G gEA, xxEA, xkEA, xbEA, xtEA⟩
  have I_EA : L2.ExcC K EA := ⟨xgaEA, xgtEA, xbEA, xdEA, xcEA, hn, htk, xmEA⟩
  have v_EA := is_val xvEA
  have m_EA : PySem.W.exmOne K (.ref EA) (.ref CF) = some true := PySem.W.exm_ref yb yd yt yeEA
  have q_EA_IS : PySem.W.kitOne K (.ref EA) (.ref IS) = some false := is_no c1IS c2IS noEAIS neEAIS
  have q_EA_EM : PySem.W.kitOne K (.ref EA) (.ref EM) = some false := is_no c1EM c2EM noEAEM neEAEM
  have q_EA_EU : PySem.W.kitOne K (.ref EA) (.ref EU) = some false := is_no c1EU c2EU noEAEU neEAEU
  have q_EA_EE : PySem.W.kitOne K (.ref EA) (.ref EE) = some false := is_no c1EE c2EE noEAEE neEAEE
  have q_EA_EN : PySem.W.kitOne K (.ref EA) (.ref EN) = some false := is_no c1EN c2EN noEAEN neEAEN
  have q_EA_IT : PySem.W.kitOne K (.ref EA) (.ref IT) = some false := is_no c1IT c2IT noEAIT neEAIT
  have q_EA_IL : PySem.W.kitOne K (.ref EA) (.ref IL) = some false := is_no c1IL c2IL noEAIL neEAIL
  have X_EE : ExcC K mg "TooEarly" EE := ⟨PySem.W.mg_of X G gEE, xxEE, xkEE, xbEE, xtEE⟩
  have I_EE : L2.ExcC K EE := ⟨xgaEE, xgtEE, xbEE, xdEE, xcEE, hn, htk, xmEE⟩
  have v_EE := is_val xvEE
  have m_EE : PySem.W.exmOne K (.ref EE) (.ref CF) = some true := PySem.W.exm_ref yb yd yt yeEE
  have q_EE_IS : PySem.W.kitOne K (.ref EE) (.ref IS) = some false := is_no c1IS c2IS noEEIS neEEIS
  have q_EE_EM : PySem.W.kitOne K (.ref EE) (.ref EM) = some false := is_no c1EM c2EM noEEEM neEEEM
  have q_EE_EU : PySem.W.kitOne K (.ref EE) (.ref EU) = some false := is_no c1EU c2EU noEEEU neEEEU
  have q_EE_EA : PySem.W.kitOne K (.ref EE) (.ref EA) = some false := is_no c1EA c2EA noEEEA neEEEA
  have q_EE_EN : PySem.W.kitOne K (.ref EE) (.ref EN) = some false := is_no c1EN c2EN noEEEN neEEEN
  have q_EE_IT : PySem.W.kitOne K (.ref EE) (.ref IT) = some false := is_no c1IT c2IT noEEIT neEEIT
  have q_EE_IL : PySem.W.kitOne K (.ref EE) (.ref IL) = some false := is_no c1IL c2IL noEEIL neEEIL
  have X_EN : ExcC K mg "NothingToUndo" EN := ⟨PySem.W.mg_of X G gEN, xxEN, xkEN, xbEN, xtEN⟩
  have I_EN : L2.ExcC K EN := ⟨xgaEN, xgtEN, xbEN, xdEN, xcEN, hn, htk, xmEN⟩
  have v_EN := is_val xvEN
  have m_EN : PySem.W.exmOne K (.ref EN) (.ref CF) = some true := PySem.W.exm_ref yb yd yt yeEN
  have q_EN_IS : PySem.W.kitOne K (.ref EN) (.ref IS) = some false := is_no c1IS c2IS noENIS neENIS
  have q_EN_EM : PySem.W.kitOne K (.ref EN) (.ref EM) = some false := is_no c1EM c2EM noENEM neENEM
  have q_EN_EU : PySem.W.kitOne K (.ref EN) (.ref EU) = some false := is_no c1EU c2EU noENEU neENEU
  have q_EN_EA : PySem.W.kitOne K (.ref EN) (.ref EA) = some false := is_no c1EA c2EA noENEA neENEA
  have q_EN_EE : PySem.W.kitOne K (.ref EN) (.ref EE) = some false := is_no c1EE c2EE noENEE neENEE
  have q_EN_IT : PySem.W.kitOne K (.ref EN) (.ref IT) = some false := is_no c1IT c2IT noENIT neENIT
  have q_EN_IL : PySem.W.kitOne K (.ref EN) (.ref IL) = some false := is_no c1IL c2IL noENIL neENIL
  have X_IT : ExcC K mg "InvalidPattern" IT := ⟨PySem.W.mg_of X G gIT, xxIT, xkIT, xbIT, xtIT⟩
  have I_IT : L2.ExcC K IT := ⟨xgaIT, xgtIT, xbIT, xdIT, xcIT, hn, htk, xmIT⟩
  have v_IT := is_val xvIT
  have m_IT : PySem.W.exmOne K (.ref IT) (.ref CF) = some true := PySem.W.exm_ref yb yd yt yeIT
  have q_IT_IS : PySem.W.kitOne K (.ref IT) (.ref IS) = some false := is_no c1IS c2IS noITIS neITIS
  have q_IT_EM : PySem.W.kitOne K (.ref IT) (.ref EM) = some false := is_no c1EM c2EM noITEM neITEM
  have q_IT_EU : PySem.W.kitOne K (.ref IT) (.ref EU) = some false := is_no c1EU c2EU noITEU neITEU
  have q_IT_EA : PySem.W.kitOne K (.ref IT) (.ref EA) = some false := is_no c1EA c2EA noITEA neITEA
  have q_IT_EE : PySem.W.kitOne K (.ref IT) (.ref EE) = some false := is_no c1EE c2EE noITEE neITEE
  have q_IT_EN : PySem.W.kitOne K (.ref IT) (.ref EN) = some false := is_no c1EN c2EN noITEN neITEN
  have q_IT_IL : PySem.W.kitOne K (.ref IT) (.ref IL) = some false := is_no c1IL c2IL noITIL neITIL
  have X_IL : ExcC K mg "InvalidPlan" IL := ⟨PySem.W.mg_of X G gIL, xxIL, xkIL, xbIL, xtIL⟩
  have I_IL : L2.ExcC K IL := ⟨xgaIL, xgtIL, xbIL, xdIL, xcIL, hn, htk, xmIL⟩
  have v_IL := is_val xvIL
  have m_IL : PySem.W.exmOne K (.ref IL) (.ref CF) = some true := PySem.W.exm_ref yb yd yt yeIL
  have q_IL_IS : PySem.W.kitOne K (.ref IL) (.ref IS) = some false := is_no c1IS c2IS noILIS neILIS
  have q_IL_EM : PySem.W.kitOne K (.ref IL) (.ref EM) = some false := is_no c1EM c2EM noILEM neILEM
  have q_IL_EU : PySem.W.kitOne K (.ref IL) (.ref EU) = some false := is_no c1EU c2EU noILEU neILEU
  have q_IL_EA : PySem.W.kitOne K (.ref IL) (.ref EA) = some false := is_no c1EA c2EA noILEA neILEA
  have q_IL_EE : PySem.W.kitOne K (.ref IL) (.ref EE) = some false := is_no c1EE c2EE noILEE neILEE
  have q_IL_EN : PySem.W.kitOne K (.ref IL) (.ref EN) = some false := is_no c1EN c2EN noILEN neILEN
  have q_IL_IT : PySem.W.kitOne K (.ref IL) (.ref IT) = some false := is_no c1IT c2IT noILIT neILIT
  refine ⟨PySem.W.fnOf "law" "law" (defArgs s_law) (defBody s_law) (defScope s_law) .none kV38 dc38 pm38 an38 cd38 ct38, fun s v => .of_eq rfl, fun base _ _ => ?_⟩
  have t_repr := PySem.W.mg_none_of X G zr
  have t_ValueError := PySem.W.mg_none_of X G ValueError
  have t_dict := PySem.W.mg_none_of X G dict
  have F_Plan_base := fun_mk (st := s_Plan_base) l42 c42 k42
  have P_base : PropC l.prog w K mg base C "base" (sp_p_base C) := ⟨pp42, f42, _, ⟨a42, i42, j42, _, r42⟩, ok_p_base F_Plan_base TC, F_Plan_base.binds (ps := ["self"]) fun _ _ _ _ _ _ us hl => match us, hl with | [_], _ => rfl⟩
  have F_Plan_width := fun_mk (st := s_Plan_width) l43 c43 k43
  have P_width : PropC l.prog w K mg base C "width" (sp_p_width C) := ⟨pp43, f43, _, ⟨a43, i43, j43, _, r43⟩, ok_p_width F_Plan_width TC, F_Plan_width.binds (ps := ["self"]) fun _ _ _ _ _ _ us hl => match us, hl with | [_], _ => rfl⟩
  have F_Plan_steps := fun_mk (st := s_Plan_steps) l44 c44 k44
  have P_steps : PropC l.prog w K mg base C "steps" (sp_p_steps C) := ⟨pp44, f44, _, ⟨a44, i44, j44, _, r44⟩, ok_p_steps F_Plan_steps T TC, F_Plan_steps.binds (ps := ["self"]) fun _ _ _ _ _ _ us hl => match us, hl with | [_], _ => rfl⟩
  have F_Plan_pieces := fun_mk (st := s_Plan_pieces) l45 c45 k45
  have P_pieces : PropC l.prog w K mg base C "pieces" (sp_p_pieces C) := ⟨pp45, f45, _, ⟨a45, i45, j45, _, r45⟩, ok_p_pieces F_Plan_pieces T TC, F_Plan_pieces.binds (ps := ["self"]) fun _ _ _ _ _ _ us hl => match us, hl with | [_], _ => rfl⟩
  have F_Plan_epochs := fun_mk (st := s_Plan_epochs) l46 c46 k46
  have P_epochs : PropC l.prog w K mg base C "epochs" (sp_p_epochs C) := ⟨pp46, f46, _, ⟨a46, i46, j46, _, r46⟩, ok_p_epochs F_Plan_epochs TC, F_Plan_epochs.binds (ps := ["self"]) fun _ _ _ _ _ _ us hl => match us, hl with | [_], _ => rfl⟩
  have F1 := fun_mk (st := s_is_integer) l1 c1 k1
  have c_is_integer : Cal l.prog w K mg base 1 "is_integer" ["thing"] (sp_is_integer K) := ⟨f1, _, ok_is_integer F1 T, PySem.W.mg_of X G a1, k1, F1.binds (ps := ["thing"]) fun _ _ _ _ _ _ us hl => match us, hl with | [_], _ => rfl⟩
  have F2 := fun_mk (st := s_is_index) l2 c2 k2
  have c_is_index : Cal l.prog w K mg base 2 "is_index" ["thing", "many"] (sp_is_index K) := ⟨f2, _, ok_is_index F2 T c_is_integer, PySem.W.mg_of X G a2, k2, F2.binds (ps := ["thing", "many"]) fun _ _ _ _ _ _ us hl => match us, hl with | [_, _], _ => rfl⟩
  have F3 := fun_mk (st := s_is_width) l3 c3 k3
  have c_is_width : Cal l.prog w K mg base 2 "is_width" ["thing"] (sp_is_width K) := ⟨f3, _, ok_is_width F3 T CK c_is_integer, PySem.W.mg_of X G a3, k3, F3.binds (ps := ["thing"]) fun _ _ _ _ _ _ us hl => match us, hl with | [_], _ => rfl⟩
  have F4 := fun_mk (st := s_are_worths) l4 c4 k4
  have c_are_worths : Cal l.prog w K mg base 3 "are_worths" ["thing"] (sp_are_worths K) := ⟨f4, _, ok_are_worths F4 T CK c_is_index, PySem.W.mg_of X G a4, k4, F4.binds (ps := ["thing"]) fun _ _ _ _ _ _ us hl => match us, hl with | [_], _ => rfl⟩
  have F5 := fun_mk (st := s_is_content) l5 c5 k5
  have c_is_content : Cal l.prog w K mg base 4 "is_content" ["thing"] (sp_is_content K) := ⟨f5, _, ok_is_content F5 T CK c_are_worths, PySem.W.mg_of X G a5, k5, F5.binds (ps := ["thing"]) fun _ _ _ _ _ _ us hl => match us, hl with | [_], _ => rfl⟩
  have F6 := fun_mk (st := s_is_step) l6 c6 k6
  have c_is_step : Cal l.prog w K mg base 4 "is_step" ["cells", "thing"] (sp_is_step K) := ⟨f6, _, ok_is_step F6 T c_is_index c_are_worths, PySem.W.mg_of X G a6, k6, F6.binds (ps := ["cells", "thing"]) fun _ _ _ _ _ _ us hl => match us, hl with | [_, _], _ => rfl⟩
  have F7 := fun_mk (st := s_broken) l7 c7 k7
  have c_broken : Cal l.prog w K mg base 1 "_broken" ["width", "index", "write"] sp_brokenX := ⟨f7, _, ok_brokenX F7 T, PySem.W.mg_of X G a7, k7, F7.binds (ps := ["width", "index", "write"]) fun _ _ _ _ _ _ us hl => match us, hl with | [_, _, _], _ => rfl⟩
  have F8 := fun_mk (st := s_pieces_of) l8 c8 k8
  have c_pieces_of : Cal l.prog w K mg base 2 "_pieces_of" ["width", "steps"] sp_piecesX := ⟨f8, _, ok_piecesX F8 T c_broken, PySem.W.mg_of X G a8, k8, F8.binds (ps := ["width", "steps"]) fun _ _ _ _ _ _ us hl => match us, hl with | [_, _], _ => rfl⟩
  have F9 := fun_mk (st := s_is_room) l9 c9 k9
  have c_is_room : Cal l.prog w K mg base 3 "is_room" ["width", "steps"] sp_roomX := ⟨f9, _, ok_roomX F9 T CK c_pieces_of, PySem.W.mg_of X G a9, k9, F9.binds (ps := ["width", "steps"]) fun _ _ _ _ _ _ us hl => match us, hl with | [_, _], _ => rfl⟩
  have c_is_roomE : Cal l.prog w K mg base 3 "is_room" ["width", "steps"] sp_roomE := ⟨f9, _, ok_roomE F9 T CK c_pieces_of, PySem.W.mg_of X G a9, k9, F9.binds (ps := ["width", "steps"]) fun _ _ _ _ _ _ us hl => match us, hl with | [_, _], _ => rfl⟩
  have F10 := fun_mk (st := s_are_steps) l10 c10 k10
  have c_are_steps : Cal l.prog w K mg base 5 "are_steps" ["cells", "width", "thing"] (sp_are_steps K sp_roomX) := ⟨f10, _, ok_are_steps F10 T c_is_step c_is_room, PySem.W.mg_of X G a10, k10, F10.binds (ps := ["cells", "width", "thing"]) fun _ _ _ _ _ _ us hl => match us, hl with | [_, _, _], _ => rfl⟩
  have F11 := fun_mk (st := s_epochs_of) l11 c11 k11
  have c_epochs_of : Cal l.prog w K mg base 1 "_epochs_of" ["steps"] sp_epochsX := ⟨f11, _, ok_epochsX F11 T, PySem.W.mg_of X G a11, k11, F11.binds (ps := ["steps"]) fun _ _ _ _ _ _ us hl => match us, hl with | [_], _ => rfl⟩
  have G_Plan := ok_initX (P := l.prog) (w := w) (base := base) F_Plan___init T TC c_is_content c_is_width c_are_steps c_epochs_of c_pieces_of
  have G_eq := ok_eq (P := l.prog) (w := w) (base := base) F_Plan___eq T TC
  have G_eo := ok_epoch_of (P := l.prog) (w := w) (base := base) F_Plan_epoch_of T TC X_EU c_is_index
  have G_State := ok_sinit (P := l.prog) (w := w) (base := base) F_State___init TS
  have G_PlanB := ok_initB (P := l.prog) (w := w) (base := base) F_Plan___init T TC X_IL c_is_content c_is_width c_are_steps c_epochs_of c_pieces_of
  have F12 := fun_mk (st := s_l_pen) l12 c12 k12
  have c_l_pen : Cal l.prog w K mg base 1 "_law_pen" ["_law_script"] (sp_pen K) := ⟨f12, _, ok_pen F12 T, PySem.W.mg_of X G a12, k12, F12.binds (ps := ["_law_script"]) fun _ _ _ _ _ _ us hl => match us, hl with | [_], _ => rfl⟩
  have F13 := fun_mk (st := s_l_next) l13 c13 k13
  have c_l_next : Cal l.prog w K mg base 1 "_law_next" ["_law_pen_here"] sp_next := ⟨f13, _, ok_next F13 T, PySem.W.mg_of X G a13, k13, F13.binds (ps := ["_law_pen_here"]) fun _ _ _ _ _ _ us hl => match us, hl with | [_], _ => rfl⟩
  have F14 := fun_mk (st := s_l_draw) l14 c14 k14
  have c_l_draw : Cal l.prog w K mg base 2 "_law_draw" ["_law_pen_here", "_law_under"] sp_draw := ⟨f14, _, ok_draw F14 T c_l_next, PySem.W.mg_of X G a14, k14, F14.binds (ps := ["_law_pen_here", "_law_under"]) fun _ _ _ _ _ _ us hl => match us, hl with | [_, _], _ => rfl⟩
  have F15 := fun_mk (st := s_piece_epochs) l15 c15 k15
  have c_piece_epochs : Cal l.prog w K mg base 4 "piece_epochs" ["plan"] (sp_pe C) := ⟨f15, _, ok_pe F15 T TC M_Plan_epoch_of G_eo b_Plan_epoch_of P_pieces, PySem.W.mg_of X G a15, k15, F15.binds (ps := ["plan"]) fun _ _ _ _ _ _ us hl => match us, hl with | [_], _ => rfl⟩
  have F16 := fun_mk (st := s_behind_piece) l16 c16 k16
  have c_behind_piece : Cal l.prog w K mg base 1 "behind_piece" ["content", "piece"] sp_behind := ⟨f16, _, ok_behind F16 T, PySem.W.mg_of X G a16, k16, F16.binds (ps := ["content", "piece"]) fun _ _ _ _ _ _ us hl => match us, hl with | [_, _], _ => rfl⟩
  have F17 := fun_mk (st := s_ready_behind) l17 c17 k17
  have c_ready_behind : Cal l.prog w K mg base 1 "ready_behind" ["epochs", "fall"] sp_ready := ⟨f17, _, ok_ready F17 T, PySem.W.mg_of X G a17, k17, F17.binds (ps := ["epochs", "fall"]) fun _ _ _ _ _ _ us hl => match us, hl with | [_, _], _ => rfl⟩
  have F18 := fun_mk (st := s_begun) l18 c18 k18
  have c_begun : Cal l.prog w K mg base 6 "begun" ["plan"] (sp_begun S C R) := ⟨f18, _, ok_begun F18 T TC TS apSR M_State___init G_State b_State___init P_base c_piece_epochs, PySem.W.mg_of X G a18, k18, F18.binds (ps := ["plan"]) fun _ _ _ _ _ _ us hl => match us, hl with | [_], _ => rfl⟩
  have XK : ErrK K mg CF (kcs IS EM EU EA EE EN IT IL) := ⟨PySem.W.mg_of X G gCF, PySem.W.mg_of X G gIS, PySem.W.mg_of X G gEM, PySem.W.mg_of X G gEU, PySem.W.mg_of X G gEA, PySem.W.mg_of X G gEE, PySem.W.mg_of X G gEN, PySem.W.mg_of X G gIT, PySem.W.mg_of X G gIL, by8 m_IS m_EM m_EU m_EA m_EE m_EN m_IT m_IL, by8 I_IS I_EM I_EU I_EA I_EE I_EN I_IT I_IL, fun i j hi hj => by8 (P := fun i => ∀ j, j < 8 → PySem.W.kitOne K (.ref ((kcs IS EM EU EA EE EN IT IL) i)) (.ref ((kcs IS EM EU EA EE EN IT IL) j)) = some (decide (i = j))) (by8 is_own q_IS_EM q_IS_EU q_IS_EA q_IS_EE q_IS_EN q_IS_IT q_IS_IL) (by8 q_EM_IS is_own q_EM_EU q_EM_EA q_EM_EE q_EM_EN q_EM_IT q_EM_IL) (by8 q_EU_IS q_EU_EM is_own q_EU_EA q_EU_EE q_EU_EN q_EU_IT q_EU_IL) (by8 q_EA_IS q_EA_EM q_EA_EU is_own q_EA_EE q_EA_EN q_EA_IT q_EA_IL) (by8 q_EE_IS q_EE_EM q_EE_EU q_EE_EA is_own q_EE_EN q_EE_IT q_EE_IL) (by8 q_EN_IS q_EN_EM q_EN_EU q_EN_EA q_EN_EE is_own q_EN_IT q_EN_IL) (by8 q_IT_IS q_IT_EM q_IT_EU q_IT_EA q_IT_EE q_IT_EN is_own q_IT_IL) (by8 q_IL_IS q_IL_EM q_IL_EU q_IL_EA q_IL_EE q_IL_EN q_IL_IT is_own) i hi j hj, by8 v_IS v_EM v_EU v_EA v_EE v_EN v_IT v_IL⟩
  have G_arr := ok_arr (P := l.prog) (w := w) (base := base) F_State_behind_arrival (C := C) (R := R) (ec := fun k => (kcs IS EM EU EA EE EN IT IL) (ek k)) T TC TS apSR X_EU X_EA X_EE M_State___init G_State b_State___init P_pieces c_is_index c_behind_piece
  have G_stp := ok_stp (P := l.prog) (w := w) (base := base) F_State_behind_step (ec := fun k => (kcs IS EM EU EA EE EN IT IL) (ek k)) T TC TS apSR apCR X_EM X_IS M_State___init G_State b_State___init M_Plan___init G_Plan b_Plan___init P_base P_width P_steps c_is_step c_is_roomE c_piece_epochs
  have G_los := ok_los (P := l.prog) (w := w) (base := base) F_State_behind_loss T TC TS apCR M_Plan___init G_Plan b_Plan___init P_width c_begun
  have G_Store := ok_rinit (P := l.prog) (w := w) (base := base) F_Store___init T TR TC apCR M_Plan___init G_Plan b_Plan___init c_begun
  have G_go := ok_go (P := l.prog) (w := w) (base := base) F_Store__go_on (S := S) (C := C) T TR
  have G_wr := ok_wr (P := l.prog) (w := w) (base := base) F_Store_write T TR TS M_Store__go_on G_go b_Store__go_on M_State_behind_step G_stp b_State_behind_step
  have G_bar := ok_bar (P := l.prog) (w := w) (base := base) F_Store_barrier T TR TS M_Store__go_on G_go b_Store__go_on M_State_behind_step G_stp b_State_behind_step
  have G_ari := ok_ari (P := l.prog) (w := w) (base := base) F_Store_arrive T TR TS M_Store__go_on G_go b_Store__go_on M_State_behind_arrival G_arr b_State_behind_arrival
  have G_lose := ok_lose (P := l.prog) (w := w) (base := base) F_Store_lose T TR TS M_Store__go_on G_go b_Store__go_on M_State_behind_loss G_los b_State_behind_loss
  have G_undo := ok_undo (P := l.prog) (w := w) (base := base) F_Store_undo (S := S) (C := C) T TR X_EN
  have G_len := ok_plen (P := l.prog) (w := w) (base := base) F_Store___len (S := S) (C := C) T TR TS
  have G_arrB := ok_arrB (P := l.prog) (w := w) (base := base) F_State_behind_arrival (C := C) (R := R) (ec := fun k => (kcs IS EM EU EA EE EN IT IL) (ek k)) T TC TS X_EU X_EA X_EE M_State___init G_State b_State___init P_pieces c_is_index c_behind_piece
  have G_stpB := ok_stpB (P := l.prog) (w := w) (base := base) F_State_behind_step (R := R) (ec := fun k => (kcs IS EM EU EA EE EN IT IL) (ek k)) T TC TS X_EM X_IS M_State___init G_State b_State___init M_Plan___init G_Plan b_Plan___init P_base P_width P_steps c_is_step c_is_roomE c_piece_epochs
  have G_wrB := ok_wrB (P := l.prog) (w := w) (base := base) F_Store_write T TR TS M_Store__go_on G_go b_Store__go_on M_State_behind_step G_stpB b_State_behind_step
  have G_ariB := ok_ariB (P := l.prog) (w := w) (base := base) F_Store_arrive T TR TS M_Store__go_on G_go b_Store__go_on M_State_behind_arrival G_arrB b_State_behind_arrival
  have G_StoreB := ok_rinitB (P := l.prog) (w := w) (base := base) F_Store___init T TR TC M_Plan___init G_PlanB b_Plan___init c_begun
  have F19 := fun_mk (st := s_l_parts) l19 c19 k19
  have c_l_parts : Cal l.prog w K mg base 1 "_law_parts" ["_law_triple"] (sp_lparts K) := ⟨f19, _, ok_lparts F19 T, PySem.W.mg_of X G a19, k19, F19.binds (ps := ["_law_triple"]) fun _ _ _ _ _ _ us hl => match us, hl with | [_], _ => rfl⟩
  have F20 := fun_mk (st := s_l_over) l20 c20 k20
  have c_l_over : Cal l.prog w K mg base 1 "_law_over" ["_law_state_here", "_law_part"] sp_lover := ⟨f20, _, ok_lover F20 T, PySem.W.mg_of X G a20, k20, F20.binds (ps := ["_law_state_here", "_law_part"]) fun _ _ _ _ _ _ us hl => match us, hl with | [_, _], _ => rfl⟩
  have F21 := fun_mk (st := s_l_is_early) l21 c21 k21
  have c_l_is_early : Cal l.prog w K mg base 1 "_law_is_early" ["_law_parts_here", "_law_arrived", "_law_k"] (sp_early K) := ⟨f21, _, ok_early F21 T, PySem.W.mg_of X G a21, k21, F21.binds (ps := ["_law_parts_here", "_law_arrived", "_law_k"]) fun _ _ _ _ _ _ us hl => match us, hl with | [_, _, _], _ => rfl⟩
  have F22 := fun_mk (st := s_l_is_below) l22 c22 k22
  have c_l_is_below : Cal l.prog w K mg base 1 "_law_is_below" ["_law_thing", "_law_under"] (sp_is_index K) := ⟨f22, _, ok_below F22 T, PySem.W.mg_of X G a22, k22, F22.binds (ps := ["_law_thing", "_law_under"]) fun _ _ _ _ _ _ us hl => match us, hl with | [_, _], _ => rfl⟩
  have F23 := fun_mk (st := s_l_is_step) l23 c23 k23
  have c_l_is_step : Cal l.prog w K mg base 2 "_law_is_step" ["_law_cells", "_law_first", "_law_row"] sp_listep := ⟨f23, _, ok_listep F23 T c_l_is_below, PySem.W.mg_of X G a23, k23, F23.binds (ps := ["_law_cells", "_law_first", "_law_row"]) fun _ _ _ _ _ _ us hl => match us, hl with | [_, _, _], _ => rfl⟩
  have c_l_is_stepB : Cal l.prog w K mg base 2 "_law_is_step" ["_law_cells", "_law_first", "_law_row"] (sp_listepB K) := ⟨f23, _, ok_listepB F23 T c_l_is_below, PySem.W.mg_of X G a23, k23, F23.binds (ps := ["_law_cells", "_law_first", "_law_row"]) fun _ _ _ _ _ _ us hl => match us, hl with | [_, _, _], _ => rfl⟩
  have F24 := fun_mk (st := s_l_held) l24 c24 k24
  have c_l_held : Cal l.prog w K mg base 2 "_law_held" ["_law_page_here"] sp_lheld := ⟨f24, _, ok_lheld F24 T c_l_parts c_l_over, PySem.W.mg_of X G a24, k24, F24.binds (ps := ["_law_page_here"]) fun _ _ _ _ _ _ us hl => match us, hl with | [_], _ => rfl⟩
  have F25 := fun_mk (st := s_l_nexts) l25 c25 k25
  have c_l_nexts : Cal l.prog w K mg base 2 "_law_nexts" ["_law_page_here"] sp_lnexts := ⟨f25, _, ok_lnexts F25 T c_l_parts c_l_is_early, PySem.W.mg_of X G a25, k25, F25.binds (ps := ["_law_page_here"]) fun _ _ _ _ _ _ us hl => match us, hl with | [_], _ => rfl⟩
  have F26 := fun_mk (st := s_l_longer) l26 c26 k26
  have c_l_longer : Cal l.prog w K mg base 2 "_law_longer" ["_law_page_here", "_law_step_here"] sp_longer := ⟨f26, _, ok_longer F26 T c_l_parts, PySem.W.mg_of X G a26, k26, F26.binds (ps := ["_law_page_here", "_law_step_here"]) fun _ _ _ _ _ _ us hl => match us, hl with | [_, _], _ => rfl⟩
  have F27 := fun_mk (st := s_l_store_due) l27 c27 k27
  have c_l_store_due : Cal l.prog w K mg base 3 "_law_store_due" ["_law_page_here", "_law_call_here"] (sp_due K) := ⟨f27, _, ok_due F27 T c_l_parts c_l_is_below c_l_is_step c_l_longer c_l_held c_l_is_early, PySem.W.mg_of X G a27, k27, F27.binds (ps := ["_law_page_here", "_law_call_here"]) fun _ _ _ _ _ _ us hl => match us, hl with | [_, _], _ => rfl⟩
  have c_l_store_dueB : Cal l.prog w K mg base 3 "_law_store_due" ["_law_page_here", "_law_call_here"] (sp_dueB K) := ⟨f27, _, ok_dueB F27 T c_l_parts c_l_is_below c_l_is_stepB c_l_longer c_l_held c_l_is_early, PySem.W.mg_of X G a27, k27, F27.binds (ps := ["_law_page_here", "_law_call_here"]) fun _ _ _ _ _ _ us hl => match us, hl with | [_, _], _ => rfl⟩
  have F28 := fun_mk (st := s_l_error) l28 c28 k28
  have c_l_error : Cal l.prog w K mg base 1 "_law_error" ["_law_caught"] (sp_error K (kcs IS EM EU EA EE EN IT IL)) := ⟨f28, _, ok_error F28 T t_ValueError XK, PySem.W.mg_of X G a28, k28, F28.binds (ps := ["_law_caught"]) fun _ _ _ _ _ _ us hl => match us, hl with | [_], _ => rfl⟩
  have F29 := fun_mk (st := s_l_outcome) l29 c29 k29
  have c_l_outcome : Cal l.prog w K mg base 12 "_law_outcome" ["_law_store", "_law_call_here"] (sp_outcome S C R) := ⟨f29, _, ok_outcome F29 T TR XK M_Store_write G_wr b_Store_write M_Store_barrier G_bar b_Store_barrier M_Store_arrive G_ari b_Store_arrive M_Store_lose G_lose b_Store_lose M_Store_undo G_undo b_Store_undo c_l_error, PySem.W.mg_of X G a29, k29, F29.binds (ps := ["_law_store", "_law_call_here"]) fun _ _ _ _ _ _ us hl => match us, hl with | [_, _], _ => rfl⟩
  have c_l_outcomeB : Cal l.prog w K mg base 12 "_law_outcome" ["_law_store", "_law_call_here"] (sp_outcomeB K S C R) := ⟨f29, _, ok_outcomeB F29 T TR XK M_Store_write G_wrB b_Store_write M_Store_barrier G_bar b_Store_barrier M_Store_arrive G_ariB b_Store_arrive M_Store_lose G_lose b_Store_lose M_Store_undo G_undo b_Store_undo c_l_error, PySem.W.mg_of X G a29, k29, F29.binds (ps := ["_law_store", "_law_call_here"]) fun _ _ _ _ _ _ us hl => match us, hl with | [_, _], _ => rfl⟩
  have F30 := fun_mk (st := s_l_called) l30 c30 k30
  have c_l_called : CalG l.prog w K mg base 13 "_law_called" ["_law_store", "_law_pages", "_law_call_here"] (sp_called S C R) := ⟨f30, _, ok_called F30 T t_repr t_dict TR c_l_outcome c_l_store_due, PySem.W.mg_of X G a30, k30, F30.binds (ps := ["_law_store", "_law_pages", "_law_call_here"]) fun _ _ _ _ _ _ us hl => match us, hl with | [_, _, _], _ => rfl⟩
  have c_l_calledU : CalG l.prog w K mg base 13 "_law_called" ["_law_store", "_law_pages", "_law_call_here"] (sp_calledU K S C R) := ⟨f30, _, FnG.or (ok_called F30 T t_repr t_dict TR c_l_outcome c_l_store_due) (ok_calledB F30 T t_repr t_dict TR c_l_outcomeB c_l_store_dueB), PySem.W.mg_of X G a30, k30, F30.binds (ps := ["_law_store", "_law_pages", "_law_call_here"]) fun _ _ _ _ _ _ us hl => match us, hl with | [_, _, _], _ => rfl⟩
  have F_Store_plan := fun_mk (st := s_Store_plan) l59 c59 k59
  have P_plan : PropK l.prog w K mg base 1 R "plan" (sp_pplan S C R) := ⟨pp59, f59, _, ⟨a59, i59, j59, _, r59⟩, ok_pplan F_Store_plan T TR TS, F_Store_plan.binds (ps := ["self"]) fun _ _ _ _ _ _ us hl => match us, hl with | [_], _ => rfl⟩
  have F_Store_came := fun_mk (st := s_Store_came) l60 c60 k60
  have P_came : PropK l.prog w K mg base 1 R "came" (sp_pcame S C R) := ⟨pp60, f60, _, ⟨a60, i60, j60, _, r60⟩, ok_pcame F_Store_came T TR TS, F_Store_came.binds (ps := ["self"]) fun _ _ _ _ _ _ us hl => match us, hl with | [_], _ => rfl⟩
  have F_Store_content := fun_mk (st := s_Store_content) l61 c61 k61
  have P_content : PropK l.prog w K mg base 1 R "content" (sp_pcont S C R) := ⟨pp61, f61, _, ⟨a61, i61, j61, _, r61⟩, ok_pcont F_Store_content T TR TS, F_Store_content.binds (ps := ["self"]) fun _ _ _ _ _ _ us hl => match us, hl with | [_], _ => rfl⟩
  have F_Store_ready := fun_mk (st := s_Store_ready) l62 c62 k62
  have P_ready : PropK l.prog w K mg base 2 R "ready" (sp_pready S C R) := ⟨pp62, f62, _, ⟨a62, i62, j62, _, r62⟩, ok_pready F_Store_ready T TR TS c_ready_behind, F_Store_ready.binds (ps := ["self"]) fun _ _ _ _ _ _ us hl => match us, hl with | [_], _ => rfl⟩
  have F31 := fun_mk (st := s_l_same) l31 c31 k31
  have c_l_same : CalG l.prog w K mg base 8 "_law_same" ["_law_store", "_law_pages"] (sp_same S C R) := ⟨f31, _, ok_same F31 T t_repr TC TR O G_eq b_Plan___eq M_Plan___init G_Plan b_Plan___init M_Store___len G_len b_Store___len P_plan P_came P_content P_ready c_l_held c_l_nexts, PySem.W.mg_of X G a31, k31, F31.binds (ps := ["_law_store", "_law_pages"]) fun _ _ _ _ _ _ us hl => match us, hl with | [_, _], _ => rfl⟩
  have F32 := fun_mk (st := s_l_step) l32 c32 k32
  have c_l_step : Cal l.prog w K mg base 3 "_law_step" ["_law_pen_here", "_law_cells", "_law_most_worth", "_law_most_long"] sp_step := ⟨f32, _, ok_step F32 T c_l_draw, PySem.W.mg_of X G a32, k32, F32.binds (ps := ["_law_pen_here", "_law_cells", "_law_most_worth", "_law_most_long"]) fun _ _ _ _ _ _ us hl => match us, hl with | [_, _, _, _], _ => rfl⟩
  have F33 := fun_mk (st := s_l_call) l33 c33 k33
  have c_l_call : Cal l.prog w K mg base 4 "_law_call" ["_law_pen_here", "_law_page_here"] (sp_call R) := ⟨f33, _, ok_call F33 T c_l_draw c_l_step c_l_parts c_l_nexts, PySem.W.mg_of X G a33, k33, F33.binds (ps := ["_law_pen_here", "_law_page_here"]) fun _ _ _ _ _ _ us hl => match us, hl with | [_, _], _ => rfl⟩
  have F34 := fun_mk (st := s_l_page) l34 c34 k34
  have c_l_page : Cal l.prog w K mg base 3 "_law_page" ["_law_pen_here", "_law_most"] sp_page := ⟨f34, _, ok_page F34 T c_l_draw, PySem.W.mg_of X G a34, k34, F34.binds (ps := ["_law_pen_here", "_law_most"]) fun _ _ _ _ _ _ us hl => match us, hl with | [_, _], _ => rfl⟩
  have F35 := fun_mk (st := s_l_odd) l35 c35 k35
  have c_l_odd : Cal l.prog w K mg base 3 "_law_odd" ["_law_pen_here"] (sp_odd K) := ⟨f35, _, ok_odd F35 T c_l_draw, PySem.W.mg_of X G a35, k35, F35.binds (ps := ["_law_pen_here"]) fun _ _ _ _ _ _ us hl => match us, hl with | [_], _ => rfl⟩
  have F36 := fun_mk (st := s_l_is_made) l36 c36 k36
  have c_l_is_made : Cal l.prog w K mg base 10 "_law_is_made" ["_law_base_here", "_law_span"] (sp_is_made K) := ⟨f36, _, ok_is_made F36 T TR XK M_Store___init G_Store G_StoreB b_Store___init c_l_error, PySem.W.mg_of X G a36, k36, F36.binds (ps := ["_law_base_here", "_law_span"]) fun _ _ _ _ _ _ us hl => match us, hl with | [_, _], _ => rfl⟩
  have F37 := fun_mk (st := s_l_full_right) l37 c37 k37
  have c_l_full_right : CalG l.prog w K mg base 14 "_law_full_right" [] (sp_full K) := ⟨f37, _, ok_full F37 T TR M_Store___init G_Store b_Store___init M_Store___len G_len b_Store___len c_l_calledU c_l_same, PySem.W.mg_of X G a37, k37, F37.binds (ps := []) fun _ _ _ _ _ _ us hl => match us, hl with | [], _ => rfl⟩
  exact ok_law (fun_mk (st := s_law) l38 c38 k38) T TR c_l_pen M_Store___init G_Store b_Store___init c_l_page c_l_call c_l_calledU c_l_same c_l_odd c_l_is_below c_l_is_made c_l_full_right
theorem walk {l : PySem.W.OpenLaw} {q : Program} {loose : List Str} {XP : (Str → Option Value) → Heap → Prop} {YP : World → Heap → Prop} {d : DefRec} {K : Params → PySem.W.Frag} (hn : l.most = some 63) (hdf : d.params.defaults = [])
    (hY : ∀ (w : World) (h : Heap), YP w h → (K w.params).In h)
    (F : ∀ (w : World) (mg : Str → Option Value) (fa : Addr) (h : Heap), (K w.params).In h → h.Ns mainGlobals mg → mg d.name = some (.ref fa) →
      ∃ fd : FuncData, (∀ (s : Shared) (u : Value), BindsTo s fd ⟨[u], []⟩ [("_law_script", u)]) ∧ ∀ base : Heap, (K w.params).In base → base.Ns mainGlobals mg → FnG l.prog w (K w.params) mg base 15 fa fd ["_law_script"] (sp_law (K w.params))) :
    PySem.W.WalkO q loose XP YP l.row.toRowW d [] (fun f vs => PySem.call f vs) :=
  walkG (n := 63) (k := 15) (x := "_law_script") (sp := fun w => sp_law (K w.params)) hn (by decide) hdf ⟨rfl, by decide, by decide⟩ hY F fun _ _ a ns hl _ hS => ⟨a, ns, rfl, hS, fun _ => rfl⟩
end Af

open PySem PySem.W PyProof.Rows in
set_option maxRecDepth 100000 in
set_option maxHeartbeats 0 in
theorem PySem.Challenge.cw_afterfall_k50_errors_of_stores_holds : PySem.Challenge.rw_afterfall_k50_errors_of_stores.Holds := by
  w_on; o_law; k_head; (case hw => w_witness2)
  k_fill
  refine Af.walk (l := PySem.Challenge.rw_afterfall_k50_errors_of_stores) rfl rfl (fun w h Y => PySem.W.kIn_of Y) ?F
  case F =>
    intro w mg fa h KX G hmg
    refine' Af.all_mk KX G hmg ?a1 ?l1 ?c1 ?k1 ?a2 ?l2 ?c2 ?k2 ?a3 ?l3 ?c3 ?k3 ?a4 ?l4 ?c4 ?k4 ?a5 ?l5 ?c5 ?k5 ?a6 ?l6 ?c6 ?k6 ?a7 ?l7 ?c7 ?k7 ?a8 ?l8 ?c8 ?k8 ?a9 ?l9 ?c9 ?k9 ?a10 ?l10 ?c10 ?k10 ?a11 ?l11 ?c11 ?k11 ?a12 ?l12 ?c12 ?k12 ?a13 ?l13 ?c13 ?k13 ?a14 ?l14 ?c14 ?k14 ?a15 ?l15 ?c15 ?k15 ?a16 ?l16 ?c16 ?k16 ?a17 ?l17 ?c17 ?k17 ?a18 ?l18 ?c18 ?k18 ?a19 ?l19 ?c19 ?k19 ?a20 ?l20 ?c20 ?k20 ?a21 ?l21 ?c21 ?k21 ?a22 ?l22 ?c22 ?k22 ?a23 ?l23 ?c23 ?k23 ?a24 ?l24 ?c24 ?k24 ?a25 ?l25 ?c25 ?k25 ?a26 ?l26 ?c26 ?k26 ?a27 ?l27 ?c27 ?k27 ?a28 ?l28 ?c28 ?k28 ?a29 ?l29 ?c29 ?k29 ?a30 ?l30 ?c30 ?k30 ?a31 ?l31 ?c31 ?k31 ?a32 ?l32 ?c32 ?k32 ?a33 ?l33 ?c33 ?k33 ?a34 ?l34 ?c34 ?k34 ?a35 ?l35 ?c35 ?k35 ?a36 ?l36 ?c36 ?k36 ?a37 ?l37 ?c37 ?k37 ?a38 ?l38 ?c38 ?k38 ?aC ?a39 ?i39 ?l39 ?c39 ?k39 ?a40 ?i40 ?l40 ?c40 ?k40 ?a41 ?i41 ?l41 ?c41 ?k41 ?a42 ?i42 ?j42 ?r42 ?l42 ?c42 ?k42 ?a43 ?i43 ?j43 ?r43 ?l43 ?c43 ?k43 ?a44 ?i44 ?j44 ?r44 ?l44 ?c44 ?k44 ?a45 ?i45 ?j45 ?r45 ?l45 ?c45 ?k45 ?a46 ?i46 ?j46 ?r46 ?l46 ?c46 ?k46 ?pg ?hd ?po ?sa ?mk ?kc ?ic ?tc ?ha ?hn ?htk ?hm ?hne ?n0 ?n1 ?n2 ?n3 ?n4 ?n5 ?aCS ?a47 ?i47 ?l47 ?c47 ?k47 ?a48 ?i48 ?l48 ?c48 ?k48 ?a49 ?i49 ?l49 ?c49 ?k49 ?a50 ?i50 ?l50 ?c50 ?k50 ?pgS ?hdS ?poS ?saS ?mkS ?kcS ?nS0 ?nS1 ?nS2 ?nS3 ?aCR ?a51 ?i51 ?l51 ?c51 ?k51 ?a52 ?i52 ?l52 ?c52 ?k52 ?a53 ?i53 ?l53 ?c53 ?k53 ?a54 ?i54 ?l54 ?c54 ?k54 ?a55 ?i55 ?l55 ?c55 ?k55 ?a56 ?i56 ?l56 ?c56 ?k56 ?a57 ?i57 ?l57 ?c57 ?k57 ?a58 ?i58 ?l58 ?c58 ?k58 ?a59 ?i59 ?j59 ?r59 ?l59 ?c59 ?k59 ?a60 ?i60 ?j60 ?r60 ?l60 ?c60 ?k60 ?a61 ?i61 ?j61 ?r61 ?l61 ?c61 ?k61 ?a62 ?i62 ?j62 ?r62 ?l62 ?c62 ?k62 ?pgR ?hdR ?poR ?saR ?mkR ?kcR ?nR0 ?nR1 ?neSR ?neCR ?gCF ?gIS ?gEM ?gEU ?gEA ?gEE ?gEN ?gIT ?gIL ?yb ?yd ?yt ?c1EA ?c2EA ?c1EE ?c2EE ?c1EM ?c2EM ?c1EN ?c2EN ?c1EU ?c2EU ?c1IL ?c2IL ?c1IS ?c2IS ?c1IT ?c2IT ?xxIS ?xkIS ?xbIS ?xtIS ?xdIS ?xcIS ?xmIS ?xgaIS ?xgtIS ?yeIS ?xvIS ?noISEM ?neISEM ?noISEU ?neISEU ?noISEA ?neISEA ?noISEE ?neISEE ?noISEN ?neISEN ?noISIT ?neISIT ?noISIL ?neISIL ?xxEM ?xkEM ?xbEM ?xtEM ?xdEM ?xcEM ?xmEM ?xgaEM ?xgtEM ?yeEM ?xvEM ?noEMIS ?neEMIS ?noEMEU ?neEMEU ?noEMEA ?neEMEA ?noEMEE ?neEMEE ?noEMEN ?neEMEN ?noEMIT ?neEMIT ?noEMIL ?neEMIL ?xxEU ?xkEU ?xbEU ?xtEU ?xdEU ?xcEU ?xmEU ?xgaEU ?xgtEU ?yeEU ?xvEU ?noEUIS ?neEUIS ?noEUEM ?neEUEM ?noEUEA ?neEUEA ?noEUEE ?neEUEE ?noEUEN ?neEUEN ?noEUIT ?neEUIT ?noEUIL ?neEUIL ?xxEA ?xkEA ?xbEA ?xtEA ?xdEA ?xcEA ?xmEA ?xgaEA ?xgtEA ?yeEA ?xvEA ?noEAIS ?neEAIS ?noEAEM ?neEAEM ?noEAEU ?neEAEU ?noEAEE ?neEAEE ?noEAEN ?neEAEN ?noEAIT ?neEAIT ?noEAIL ?neEAIL ?xxEE ?xkEE ?xbEE ?xtEE ?xdEE ?xcEE ?xmEE ?xgaEE ?xgtEE ?yeEE ?xvEE ?noEEIS ?neEEIS ?noEEEM ?neEEEM ?noEEEU ?neEEEU ?noEEEA ?neEEEA ?noEEEN ?neEEEN ?noEEIT ?neEEIT ?noEEIL ?neEEIL ?xxEN ?xkEN ?xbEN ?xtEN ?xdEN ?xcEN ?xmEN ?xgaEN ?xgtEN ?yeEN ?xvEN ?noENIS ?neENIS ?noENEM ?neENEM ?noENEU ?neENEU ?noENEA ?neENEA ?noENEE ?neENEE ?noENIT ?neENIT ?noENIL ?neENIL ?xxIT ?xkIT ?xbIT ?xtIT ?xdIT ?xcIT ?xmIT ?xgaIT ?xgtIT ?yeIT ?xvIT ?noITIS ?neITIS ?noITEM ?neITEM ?noITEU ?neITEU ?noITEA ?neITEA ?noITEE ?neITEE ?noITEN ?neITEN ?noITIL ?neITIL ?xxIL ?xkIL ?xbIL ?xtIL ?xdIL ?xcIL ?xmIL ?xgaIL ?xgtIL ?yeIL ?xvIL ?noILIS ?neILIS ?noILEM ?neILEM ?noILEU ?neILEU ?noILEA ?neILEA ?noILEE ?neILEE ?noILEN ?neILEN ?noILIT ?neILIT ?zr ?z0 ?z1 ?z2 ?z3 ?z4 ?z5 ?z6 ?z7 ?z8 ?z9 ?z10 ?ValueError ?dict ?m0 ?m1 ?m2 ?u0 ?w0 ?x0 ?y0
    (case a1 => k_is)
    (case l1 => k_is)
    (case c1 => k_is)
    (case k1 => k_is)
    (case a2 => k_is)
    (case l2 => k_is)
    (case c2 => k_is)
    (case k2 => k_is)
    (case a3 => k_is)
    (case l3 => k_is)
    (case c3 => k_is)
    (case k3 => k_is)
    (case a4 => k_is)
    (case l4 => k_is)
    (case c4 => k_is)
    (case k4 => k_is)
    (case a5 => k_is)
    (case l5 => k_is)
    (case c5 => k_is)
    (case k5 => k_is)
    (case a6 => k_is)
    (case l6 => k_is)
    (case c6 => k_is)
    (case k6 => k_is)
    (case a7 => k_is)
    (case l7 => k_is)
    (case c7 => k_is)
    (case k7 => k_is)
    (case a8 => k_is)
    (case l8 => k_is)
    (case c8 => k_is)
    (case k8 => k_is)
    (case a9 => k_is)
    (case l9 => k_is)
    (case c9 => k_is)
    (case k9 => k_is)
    (case a10 => k_is)
    (case l10 => k_is)
    (case c10 => k_is)
    (case k10 => k_is)
    (case a11 => k_is)
    (case l11 => k_is)
    (case c11 => k_is)
    (case k11 => k_is)
    (case a12 => k_is)
    (case l12 => k_is)
    (case c12 => k_is)
    (case k12 => k_is)
    (case a13 => k_is)
    (case l13 => k_is)
    (case c13 => k_is)
    (case k13 => k_is)
    (case a14 => k_is)
    (case l14 => k_is)
    (case c14 => k_is)
    (case k14 => k_is)
    (case a15 => k_is)
    (case l15 => k_is)
    (case c15 => k_is)
    (case k15 => k_is)
    (case a16 => k_is)
    (case l16 => k_is)
    (case c16 => k_is)
    (case k16 => k_is)
    (case a17 => k_is)
    (case l17 => k_is)
    (case c17 => k_is)
    (case k17 => k_is)
    (case a18 => k_is)
    (case l18 => k_is)
    (case c18 => k_is)
    (case k18 => k_is)
    (case a19 => k_is)
    (case l19 => k_is)
    (case c19 => k_is)
    (case k19 => k_is)
    (case a20 => k_is)
    (case l20 => k_is)
    (case c20 => k_is)
    (case k20 => k_is)
    (case a21 => k_is)
    (case l21 => k_is)
    (case c21 => k_is)
    (case k21 => k_is)
    (case a22 => k_is)
    (case l22 => k_is)
    (case c22 => k_is)
    (case k22 => k_is)
    (case a23 => k_is)
    (case l23 => k_is)
    (case c23 => k_is)
    (case k23 => k_is)
    (case a24 => k_is)
    (case l24 => k_is)
    (case c24 => k_is)
    (case k24 => k_is)
    (case a25 => k_is)
    (case l25 => k_is)
    (case c25 => k_is)
    (case k25 => k_is)
    (case a26 => k_is)
    (case l26 => k_is)
    (case c26 => k_is)
    (case k26 => k_is)
    (case a27 => k_is)
    (case l27 => k_is)
    (case c27 => k_is)
    (case k27 => k_is)
    (case a28 => k_is)
    (case l28 => k_is)
    (case c28 => k_is)
    (case k28 => k_is)
    (case a29 => k_is)
    (case l29 => k_is)
    (case c29 => k_is)
    (case k29 => k_is)
    (case a30 => k_is)
    (case l30 => k_is)
    (case c30 => k_is)
    (case k30 => k_is)
    (case a31 => k_is)
    (case l31 => k_is)
    (case c31 => k_is)
    (case k31 => k_is)
    (case a32 => k_is)
    (case l32 => k_is)
    (case c32 => k_is)
    (case k32 => k_is)
    (case a33 => k_is)
    (case l33 => k_is)
    (case c33 => k_is)
    (case k33 => k_is)
    (case a34 => k_is)
    (case l34 => k_is)
    (case c34 => k_is)
    (case k34 => k_is)
    (case a35 => k_is)
    (case l35 => k_is)
    (case c35 => k_is)
    (case k35 => k_is)
    (case a36 => k_is)
    (case l36 => k_is)
    (case c36 => k_is)
    (case k36 => k_is)
    (case a37 => k_is)
    (case l37 => k_is)
    (case c37 => k_is)
    (case k37 => k_is)
    (case a38 => k_is)
    (case l38 => k_is)
    (case c38 => k_is)
    (case k38 => k_is)
    (case aC => k_is)
    (case a39 => k_is)
    (case i39 => k_is)
    (case l39 => k_is)
    (case c39 => k_is)
    (case k39 => k_is)
    (case a40 => k_is)
    (case i40 => k_is)
    (case l40 => k_is)
    (case c40 => k_is)
    (case k40 => k_is)
    (case a41 => k_is)
    (case i41 => k_is)
    (case l41 => k_is)
    (case c41 => k_is)
    (case k41 => k_is)
    (case a42 => k_is)
    (case i42 => k_is)
    (case j42 => k_is)
    (case r42 => k_is)
    (case l42 => k_is)
    (case c42 => k_is)
    (case k42 => k_is)
    (case a43 => k_is)
    (case i43 => k_is)
    (case j43 => k_is)
    (case r43 => k_is)
    (case l43 => k_is)
    (case c43 => k_is)
    (case k43 => k_is)
    (case a44 => k_is)
    (case i44 => k_is)
    (case j44 => k_is)
    (case r44 => k_is)
    (case l44 => k_is)
    (case c44 => k_is)
    (case k44 => k_is)
    (case a45 => k_is)
    (case i45 => k_is)
    (case j45 => k_is)
    (case r45 => k_is)
    (case l45 => k_is)
    (case c45 => k_is)
    (case k45 => k_is)
    (case a46 => k_is)
    (case i46 => k_is)
    (case j46 => k_is)
    (case r46 => k_is)
    (case l46 => k_is)
    (case c46 => k_is)
    (case k46 => k_is)
    (case pg => k_is)
    (case hd => k_is)
    (case po => k_is)
    (case sa => k_is)
    (case mk => k_is)
    (case kc => k_is)
    (case ic => k_is)
    (case tc => k_is)
    (case ha => k_is)
    (case hn => k_is)
    (case htk => k_is)
    (case hm => k_is)
    (case hne => k_is)
    (case n0 => k_is)
    (case n1 => k_is)
    (case n2 => k_is)
    (case n3 => k_is)
    (case n4 => k_is)
    (case n5 => k_is)
    (case aCS => k_is)
    (case a47 => k_is)
    (case i47 => k_is)
    (case l47 => k_is)
    (case c47 => k_is)
    (case k47 => k_is)
    (case a48 => k_is)
    (case i48 => k_is)
    (case l48 => k_is)
    (case c48 => k_is)
    (case k48 => k_is)
    (case a49 => k_is)
    (case i49 => k_is)
    (case l49 => k_is)
    (case c49 => k_is)
    (case k49 => k_is)
    (case a50 => k_is)
    (case i50 => k_is)
    (case l50 => k_is)
    (case c50 => k_is)
    (case k50 => k_is)
    (case pgS => k_is)
    (case hdS => k_is)
    (case poS => k_is)
    (case saS => k_is)
    (case mkS => k_is)
    (case kcS => k_is)
    (case nS0 => k_is)
    (case nS1 => k_is)
    (case nS2 => k_is)
    (case nS3 => k_is)
    (case aCR => k_is)
    (case a51 => k_is)
    (case i51 => k_is)
    (case l51 => k_is)
    (case c51 => k_is)
    (case k51 => k_is)
    (case a52 => k_is)
    (case i52 => k_is)
    (case l52 => k_is)
    (case c52 => k_is)
    (case k52 => k_is)
    (case a53 => k_is)
    (case i53 => k_is)
    (case l53 => k_is)
    (case c53 => k_is)
    (case k53 => k_is)
    (case a54 => k_is)
    (case i54 => k_is)
    (case l54 => k_is)
    (case c54 => k_is)
    (case k54 => k_is)
    (case a55 => k_is)
    (case i55 => k_is)
    (case l55 => k_is)
    (case c55 => k_is)
    (case k55 => k_is)
    (case a56 => k_is)
    (case i56 => k_is)
    (case l56 => k_is)
    (case c56 => k_is)
    (case k56 => k_is)
    (case a57 => k_is)
    (case i57 => k_is)
    (case l57 => k_is)
    (case c57 => k_is)
    (case k57 => k_is)
    (case a58 => k_is)
    (case i58 => k_is)
    (case l58 => k_is)
    (case c58 => k_is)
    (case k58 => k_is)
    (case a59 => k_is)
    (case i59 => k_is)
    (case j59 => k_is)
    (case r59 => k_is)
    (case l59 => k_is)
    (case c59 => k_is)
    (case k59 => k_is)
    (case a60 => k_is)
    (case i60 => k_is)
    (case j60 => k_is)
    (case r60 => k_is)
    (case l60 => k_is)
    (case c60 => k_is)
    (case k60 => k_is)
    (case a61 => k_is)
    (case i61 => k_is)
    (case j61 => k_is)
    (case r61 => k_is)
    (case l61 => k_is)
    (case c61 => k_is)
    (case k61 => k_is)
    (case a62 => k_is)
    (case i62 => k_is)
    (case j62 => k_is)
    (case r62 => k_is)
    (case l62 => k_is)
    (case c62 => k_is)
    (case k62 => k_is)
    (case pgR => k_is)
    (case hdR => k_is)
    (case poR => k_is)
    (case saR => k_is)
    (case mkR => k_is)
    (case kcR => k_is)
    (case nR0 => k_is)
    (case nR1 => k_is)
    (case neSR => decide)
    (case neCR => decide)
    (case gCF => k_is)
    (case gIS => k_is)
    (case gEM => k_is)
    (case gEU => k_is)
    (case gEA => k_is)
    (case gEE => k_is)
    (case gEN => k_is)
    (case gIT => k_is)
    (case gIL => k_is)
    (case yb => k_is)
    (case yd => k_is)
    (case yt => k_is)
    (case c1EA => k_is)
    (case c2EA => k_is)
    (case c1EE => k_is)
    (case c2EE => k_is)
    (case c1EM => k_is)
    (case c2EM => k_is)
    (case c1EN => k_is)
    (case c2EN => k_is)
    (case c1EU => k_is)
    (case c2EU => k_is)
    (case c1IL => k_is)
    (case c2IL => k_is)
    (case c1IS => k_is)
    (case c2IS => k_is)
    (case c1IT => k_is)
    (case c2IT => k_is)
    (case xxIS => k_exc)
    (case xkIS => k_is)
    (case xbIS => k_is)
    (case xtIS => k_is)
    (case xdIS => k_is)
    (case xcIS => k_is)
    (case xmIS => k_is)
    (case xgaIS => k_is)
    (case xgtIS => k_is)
    (case yeIS => k_is)
    (case xvIS => k_is)
    (case noISEM => k_is)
    (case neISEM => decide)
    (case noISEU => k_is)
    (case neISEU => decide)
    (case noISEA => k_is)
    (case neISEA => decide)
    (case noISEE => k_is)
    (case neISEE => decide)
    (case noISEN => k_is)
    (case neISEN => decide)
    (case noISIT => k_is)
    (case neISIT => decide)
    (case noISIL => k_is)
    (case neISIL => decide)
    (case xxEM => k_exc)
    (case xkEM => k_is)
    (case xbEM => k_is)
    (case xtEM => k_is)
    (case xdEM => k_is)
    (case xcEM => k_is)
    (case xmEM => k_is)
    (case xgaEM => k_is)
    (case xgtEM => k_is)
    (case yeEM => k_is)
    (case xvEM => k_is)
    (case noEMIS => k_is)
    (case neEMIS => decide)
    (case noEMEU => k_is)
    (case neEMEU => decide)
    (case noEMEA => k_is)
    (case neEMEA => decide)
    (case noEMEE => k_is)
    (case neEMEE => decide)
    (case noEMEN => k_is)
    (case neEMEN => decide)
    (case noEMIT => k_is)
    (case neEMIT => decide)
    (case noEMIL => k_is)
    (case neEMIL => decide)
    (case xxEU => k_exc)
    (case xkEU => k_is)
    (case xbEU => k_is)
    (case xtEU => k_is)
    (case xdEU => k_is)
    (case xcEU => k_is)
    (case xmEU => k_is)
    (case xgaEU => k_is)
    (case xgtEU => k_is)
    (case yeEU => k_is)
    (case xvEU => k_is)
    (case noEUIS => k_is)
    (case neEUIS => decide)
    (case noEUEM => k_is)
    (case neEUEM => decide)
    (case noEUEA => k_is)
    (case neEUEA => decide)
    (case noEUEE => k_is)
    (case neEUEE => decide)
    (case noEUEN => k_is)
    (case neEUEN => decide)
    (case noEUIT => k_is)
    (case neEUIT => decide)
    (case noEUIL => k_is)
    (case neEUIL => decide)
    (case xxEA => k_exc)
    (case xkEA => k_is)
    (case xbEA => k_is)
    (case xtEA => k_is)
    (case xdEA => k_is)
    (case xcEA => k_is)
    (case xmEA => k_is)
    (case xgaEA => k_is)
    (case xgtEA => k_is)
    (case yeEA => k_is)
    (case xvEA => k_is)
    (case noEAIS => k_is)
    (case neEAIS => decide)
    (case noEAEM => k_is)
    (case neEAEM => decide)
    (case noEAEU => k_is)
    (case neEAEU => decide)
    (case noEAEE => k_is)
    (case neEAEE => decide)
    (case noEAEN => k_is)
    (case neEAEN => decide)
    (case noEAIT => k_is)
    (case neEAIT => decide)
    (case noEAIL => k_is)
    (case neEAIL => decide)
    (case xxEE => k_exc)
    (case xkEE => k_is)
    (case xbEE => k_is)
    (case xtEE => k_is)
    (case xdEE => k_is)
    (case xcEE => k_is)
    (case xmEE => k_is)
    (case xgaEE => k_is)
    (case xgtEE => k_is)
    (case yeEE => k_is)
    (case xvEE => k_is)
    (case noEEIS => k_is)
    (case neEEIS => decide)
    (case noEEEM => k_is)
    (case neEEEM => decide)
    (case noEEEU => k_is)
    (case neEEEU => decide)
    (case noEEEA => k_is)
    (case neEEEA => decide)
    (case noEEEN => k_is)
    (case neEEEN => decide)
    (case noEEIT => k_is)
    (case neEEIT => decide)
    (case noEEIL => k_is)
    (case neEEIL => decide)
    (case xxEN => k_exc)
    (case xkEN => k_is)
    (case xbEN => k_is)
    (case xtEN => k_is)
    (case xdEN => k_is)
    (case xcEN => k_is)
    (case xmEN => k_is)
    (case xgaEN => k_is)
    (case xgtEN => k_is)
    (case yeEN => k_is)
    (case xvEN => k_is)
    (case noENIS => k_is)
    (case neENIS => decide)
    (case noENEM => k_is)
    (case neENEM => decide)
    (case noENEU => k_is)
    (case neENEU => decide)
    (case noENEA => k_is)
    (case neENEA => decide)
    (case noENEE => k_is)
    (case neENEE => decide)
    (case noENIT => k_is)
    (case neENIT => decide)
    (case noENIL => k_is)
    (case neENIL => decide)
    (case xxIT => k_exc)
    (case xkIT => k_is)
    (case xbIT => k_is)
    (case xtIT => k_is)
    (case xdIT => k_is)
    (case xcIT => k_is)
    (case xmIT => k_is)
    (case xgaIT => k_is)
    (case xgtIT => k_is)
    (case yeIT => k_is)
    (case xvIT => k_is)
    (case noITIS => k_is)
    (case neITIS => decide)
    (case noITEM => k_is)
    (case neITEM => decide)
    (case noITEU => k_is)
    (case neITEU => decide)
    (case noITEA => k_is)
    (case neITEA => decide)
    (case noITEE => k_is)
    (case neITEE => decide)
    (case noITEN => k_is)
    (case neITEN => decide)
    (case noITIL => k_is)
    (case neITIL => decide)
    (case xxIL => k_exc)
    (case xkIL => k_is)
    (case xbIL => k_is)
    (case xtIL => k_is)
    (case xdIL => k_is)
    (case xcIL => k_is)
    (case xmIL => k_is)
    (case xgaIL => k_is)
    (case xgtIL => k_is)
    (case yeIL => k_is)
    (case xvIL => k_is)
    (case noILIS => k_is)
    (case neILIS => decide)
    (case noILEM => k_is)
    (case neILEM => decide)
    (case noILEU => k_is)
    (case neILEU => decide)
    (case noILEA => k_is)
    (case neILEA => decide)
    (case noILEE => k_is)
    (case neILEE => decide)
    (case noILEN => k_is)
    (case neILEN => decide)
    (case noILIT => k_is)
    (case neILIT => decide)
    (case zr => k_is)
    (case z0 => k_is)
    (case z1 => k_is)
    (case z2 => k_is)
    (case z3 => k_is)
    (case z4 => k_is)
    (case z5 => k_is)
    (case z6 => k_is)
    (case z7 => k_is)
    (case z8 => k_is)
    (case z9 => k_is)
    (case z10 => k_is)
    (case ValueError => k_is)
    (case dict => k_is)
    (case m0 => k_is)
    (case m1 => k_is)
    (case m2 => k_is)
    (case u0 => k_is)
    (case w0 => k_is)
    (case x0 => decide)
    (case y0 => exact .cons ⟨_, rfl⟩ (.cons ⟨_, rfl⟩ (.cons ⟨_, rfl⟩ (.cons ⟨_, rfl⟩ (.cons ⟨_, rfl⟩ (.cons ⟨_, rfl⟩ (.cons ⟨_, rfl⟩ (.cons ⟨_, rfl⟩ .nil))))))))

