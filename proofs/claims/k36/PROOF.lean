import PyProof.Rows.All
import Wide.All
import OpenK.AllK
import Wide.FinOn
import HandS.ForMost
import HandS.ForExc
import HandS.TupAny
import HandS.TupMul
import HandS.Style
import HandS.OwnEq
import HandS.IsInst
import HandS.Zip
import KE.DataFind
import PyProof.ReprRoads
import PyProof.ReprLen
import HandS.ExcIs
import HandS.ExcValue
import HandS.Property
import PyProof.Rows.SetFrom
import HandS.Iter
import HandS.Conv
import HandS.Walk
import HandS.More
import HandS.Small
import HandS.Star
import HandS.TupLe
import PySem.Challenge.RW_afterfall_k36_harm_known
set_option Elab.async false
set_option linter.all false
set_option maxRecDepth 100000
namespace Af
open PySem L2

/-! heaps -/
theorem same_new {H : Hp} {p : Addr} {o : HO} (h : H p = none) : Same H (upd H p o) := fun b u e => by
  rw [upd_ne (ne_of_none e h)]
  exact e
theorem nofree {H : Hp} {p q : Addr} {o : HO} (h : H p = some o) (h' : H q = none) : q ≠ p := fun e => by
  rw [e, h] at h'
  cases h'

/-- a new object o -/
def New (o : HO) (H : Hp) (Q : VK) : Prop := ∀ (p : Addr) (H' : Hp), H p = none → Same H H' → H' p = some o → Q (.ref p) H'
theorem New.mk {o : HO} {H : Hp} {Q : VK} (h : New o H Q) : ∀ p, H p = none → Q (.ref p) (upd H p o) := fun p hp => h p _ hp (same_new hp) upd_same
/-- a tuple of xs, new or not -/
def NewT (xs : List V) (H : Hp) (Q : VK) : Prop := ∀ (p : Addr) (H' : Hp), Same H H' → H' p = some (.tup xs) → Q (.ref p) H'

theorem pe_imp {X : Cx} {e : Expr} {t t' : TE} (h : PE X e t) (i : ∀ σ H Q, t' σ H Q → t σ H Q) : PE X e t' := ⟨fun pins s σ H Q I q => h.run pins s σ H Q I (i σ H Q q)⟩
theorem op_imp {X : Cx} {f : Value → Value → Sem Value} {r r' : R2} (h : OpR X f r) (i : ∀ x y H Q, r' x y H Q → r x y H Q) : OpR X f r' :=
  fun pins s σ H x y v u Q I rx ry q => h pins s σ H x y v u Q I rx ry (i x y H Q q)
theorem call_imp {X : Cx} {f : Value} {r r' : List V → Hp → VK → Prop} (h : CallR X f r) (i : ∀ xs H Q, r' xs H Q → r xs H Q) : CallR X f r' :=
  fun pins s σ H xs us Q I rs q => h pins s σ H xs us Q I rs (i xs H Q q)

/-! displays -/
def tTup' (t : TA) : TE := fun σ H Q => t σ H fun xs H1 => xs.length ≤ sizeLine ∧ New (.tup xs) H1 Q
def tLst' (t : TA) : TE := fun σ H Q => t σ H fun xs H1 => xs.length ≤ sizeLine ∧ New (.lst xs) H1 Q
section
variable {X : Cx} {e : Expr} {es : List Expr} {te : TE} {t : TA} {pos : Pos}
theorem pe_tup' {x1 : Nat} (h : PA X es t) : PE X (.Tuple es x1 pos) (tTup' t) := ⟨fun pins s σ H Q I hq =>
  wpAny_Tuple_spliced (thn (h.run pos pins s σ H _ I hq) fun us s1 z => by
    obtain ⟨xs, H1, I1, r, z, q⟩ := z
    refine ⟨by rw [← r.length]; exact z, ?_⟩
    have hf := I1.fresh
    exact ⟨.ref s1.heap.objs.size, upd H1 s1.heap.objs.size (.tup xs),
      I1.laid (t' := s1.toks) (fun b u e => Heap.get?_push_of_some _ e) (Nat.le_refl _) ⟨z, us, r, ⟨_, Heap.get?_push_size _ rfl, rfl, _, rfl⟩⟩, rfl, q.mk _ hf⟩)⟩
theorem pe_lst' (h : PA X es t) : PE X (.List es pos) (tLst' t) := ⟨fun pins s σ H Q I hq =>
  wpAny_List_spliced (thn (h.run pos pins s σ H _ I hq) fun us s1 z => by
    obtain ⟨xs, H1, I1, r, z, q⟩ := z
    refine ⟨by rw [← r.length]; exact z, ?_⟩
    have hf := I1.fresh
    exact ⟨.ref s1.heap.objs.size, upd H1 s1.heap.objs.size (.lst xs),
      I1.laid (t' := s1.toks) (fun b u e => Heap.get?_push_of_some _ e) (Nat.le_refl _) ⟨z, us, 0, r, Heap.get?_push_size _ rfl⟩, rfl, q.mk _ hf⟩)⟩

/-! lists and tuples -/
def rCat' : R2 := fun x y H Q => ∃ l b xs zs, x = .ref l ∧ y = .ref b ∧ H l = some (.lst xs) ∧ H b = some (.lst zs) ∧ xs.length + zs.length ≤ sizeLine ∧ New (.lst (xs ++ zs)) H Q
theorem op_cat' : OpR X (binaryOp .Add) rCat' := op_imp op_cat fun x y H Q h => by
  obtain ⟨l, b, xs, zs, h1, h2, h3, h4, h5, q⟩ := h
  exact ⟨l, b, xs, zs, h1, h2, h3, h4, h5, q.mk⟩
def rCatT' : R2 := fun x y H Q => ∃ a b xs ys, x = .ref a ∧ y = .ref b ∧ H a = some (.tup xs) ∧ H b = some (.tup ys) ∧ xs.length + ys.length ≤ sizeLine ∧ NewT (xs ++ ys) H Q
theorem op_catT' : OpR X (binaryOp .Add) rCatT' := op_imp op_catA fun x y H Q h => by
  obtain ⟨a, b, xs, ys, h1, h2, h3, h4, h5, q⟩ := h
  refine ⟨a, b, xs, ys, h1, h2, SqT.of h3, SqT.of h4, h5, fun e => ?_, fun _ e => ?_, fun _ _ p hp => q p _ (same_new hp) upd_same⟩
  · subst e
    exact q b H (Same.refl H) h4
  · subst e
    exact q a H (Same.refl H) (by rw [List.append_nil]; exact h3)
def rRep' : R2 := fun x y H Q => ∃ l k xs, x = .ref l ∧ y = .int k ∧ H l = some (.lst xs) ∧ 0 ≤ k ∧ k ≤ 1000 ∧ xs.length * k.toNat ≤ sizeLine ∧ New (.lst (List.replicate k.toNat xs).flatten) H Q
theorem op_rep' : OpR X (binaryOp .Mult) rRep' := op_imp op_rep fun x y H Q h => by
  obtain ⟨l, k, xs, h1, h2, h3, h4, h5, h6, q⟩ := h
  exact ⟨l, k, xs, h1, h2, h3, by omega, by omega, h6, q.mk⟩
theorem sl_imp {r r' : V → Option Int → Option Int → Hp → VK → Prop} (h : SlR X r) (i : ∀ x lo hi H Q, r' x lo hi H Q → r x lo hi H Q) : SlR X r' :=
  fun pins s σ H x v vl vu lo hi sl Q I rx hs pl pu q => h pins s σ H x v vl vu lo hi sl Q I rx hs pl pu (i x lo hi H Q q)
def rSlL' : V → Option Int → Option Int → Hp → VK → Prop := fun x lo hi H Q => ∃ a xs, x = .ref a ∧ H a = some (.lst xs) ∧ New (.lst (cutV xs lo hi)) H Q
theorem sl_list' : SlR X rSlL' := sl_imp sl_list fun x lo hi H Q h => by
  obtain ⟨a, xs, h1, h2, q⟩ := h
  exact ⟨a, xs, h1, SqL.of h2, q.mk⟩
theorem cut_all {xs : List V} {lo hi : Option Int} (h : HT.sIx xs.length 0 lo = 0 ∧ HT.sIx xs.length xs.length hi = xs.length) : cutV xs lo hi = xs := by
  unfold cutV
  rw [h.1, h.2]
  simp
def rSlT' : V → Option Int → Option Int → Hp → VK → Prop := fun x lo hi H Q => ∃ a xs, x = .ref a ∧ H a = some (.tup xs) ∧ NewT (cutV xs lo hi) H Q
theorem sl_tup' : SlR X rSlT' := sl_imp sl_tupA fun x lo hi H Q h => by
  obtain ⟨a, xs, h1, h2, q⟩ := h
  refine ⟨a, xs, h1, SqT.of h2, fun w => ?_, fun _ p hp => q p _ (same_new hp) upd_same⟩
  exact q a H (Same.refl H) (by rw [cut_all w]; exact h2)
def Sq (H : Hp) (p : Addr) (ys : List V) : Prop := H p = some (.lst ys) ∨ H p = some (.tup ys)
theorem Sq.or {K : PySem.W.Frag} {H : Hp} {p : Addr} {ys : List V} (h : Sq H p ys) : SqL K H p ys ∨ SqT K H p ys := h.elim (fun h => .inl (SqL.of h)) fun h => .inr (SqT.of h)
def rList' : List V → Hp → VK → Prop := fun xs H Q => ∃ p ys, xs = [.ref p] ∧ Sq H p ys ∧ New (.lst ys) H Q
theorem call_list' : CallR X (.type "list") rList' := call_imp call_list_of fun xs H Q h => by
  obtain ⟨p, ys, h1, h2, q⟩ := h
  exact ⟨p, ys, h1, h2.or, q.mk⟩
def rTuple' : List V → Hp → VK → Prop := fun xs H Q => ∃ p ys, xs = [.ref p] ∧ Sq H p ys ∧ NewT ys H Q
theorem call_tuple' : CallR X (.type "tuple") rTuple' := call_imp call_tuple_of fun xs H Q h => by
  obtain ⟨p, ys, h1, h2, q⟩ := h
  rcases h2 with h2 | h2
  · exact ⟨p, ys, h1, .inl ⟨SqL.of h2, fun l hl => q l _ (same_new hl) upd_same⟩⟩
  · exact ⟨p, ys, h1, .inr ⟨SqT.of h2, q p H (Same.refl H) h2⟩⟩
def rLen' : List V → Hp → VK → Prop := fun xs H Q => ∃ p ys, xs = [.ref p] ∧ Sq H p ys ∧ Q (.int ys.length) H
theorem call_len' : CallR X (.builtin "len") rLen' := call_imp call_len_seq fun xs H Q h => by
  obtain ⟨p, ys, h1, h2, q⟩ := h
  exact ⟨p, ys, h1, h2.or, q⟩
def rLenK (K : PySem.W.Frag) : List V → Hp → VK → Prop := fun xs H Q => ∃ p ys, xs = [.ref p] ∧ (SqL K H p ys ∨ SqT K H p ys) ∧ Q (.int ys.length) H
theorem call_lenK : CallR X (.builtin "len") (rLenK X.K) := call_len_seq
theorem ix_imp {r r' : R2} (h : IxR X r) (i : ∀ x y H Q, r' x y H Q → r x y H Q) : IxR X r' :=
  fun value slice pins s σ H x y v u Q I rx ry q hs => h value slice pins s σ H x y v u Q I rx ry (i x y H Q q) hs
def rIx' : R2 := fun x y H Q => ∃ p xs i v, x = .ref p ∧ y = .int i ∧ Sq H p xs ∧ atI xs i = some v ∧ Q v H
theorem ix_seq' : IxR X rIx' := ix_imp (ix_list.or ix_tup) fun x y H Q h => by
  obtain ⟨p, xs, i, v, h1, h2, h3, h4, q⟩ := h
  rcases h3 with h3 | h3
  · exact .inl ⟨p, xs, i, v, h1, h2, SqL.of h3, h4, q⟩
  · exact .inr ⟨p, xs, i, v, h1, h2, SqT.of h3, h4, q⟩
/-- xs[::-1] -/
def tRev' (te : TE) : TE := fun σ H Q => te σ H fun x H1 => ∃ a xs, x = .ref a ∧ H1 a = some (.lst xs) ∧ New (.lst xs.reverse) H1 Q
end

/-! a def of the text, called -/
structure Cal (P : Program) (w : World) (K : PySem.W.Frag) (mg : Str → Option Value) (base : Heap) (k : Nat) (x : Str) (ps : List Str) (sp : Sp) : Prop where
  ex : ∃ (f : Addr) (fd : FuncData), FnOk P w K mg base CX0 k f fd ps sp ∧ mg x = some (.ref f) ∧ PySem.W.keepIn K (.ref f) = true ∧ Binds K fd ps []
def tCal (sp : Sp) (t : TA) : TE := fun σ H Q => t σ H fun vs H1 => sp vs H1 Q E0
section
variable {X : Cx} {k j : Nat} {x : Str} {ps : List Str} {sp : Sp} {e : Expr} {es : List Expr} {t : TA} {p pos : Pos}
theorem pe_cal (c : Cal X.prog X.w X.K X.mg X.base k x ps sp) (hr : Room j X.A) (ha : PA X (e :: es) t) (hkj : k ≤ j := by decide) (hg : Gl X x := by rfl) (hdb : (x == ("__debug__" : Str)) = false := by decide)
    (he : starEach (e :: es) X.env = (false, eval e X.env) :: starEach es X.env := by rfl) (hpl : (backTo pos (starEach es X.env)).any (·.1) = false := by rfl) :
    PE X (.Call (.Name x p) (e :: es) [] pos) (tCal sp t) := by
  obtain ⟨f, fd, G, m, kp, b⟩ := c.ex
  have := pe_call (pos := pos) (p := p) G (hr.mono hkj) hg m kp b .nil pass0 ha hdb he hpl
  refine ⟨fun pins s σ H Q I h => this.run pins s σ H Q I ?_⟩
  have e1 : tCal sp t = tCall sp [] E0 t := by
    funext σ H Q
    unfold tCal tCall
    simp only [List.append_nil]
  rw [← e1]
  exact h
theorem pe_cal0 (c : Cal X.prog X.w X.K X.mg X.base k x ps sp) (hr : Room j X.A) (hkj : k ≤ j := by decide) (hg : Gl X x := by rfl) (hdb : (x == ("__debug__" : Str)) = false := by decide) :
    PE X (.Call (.Name x p) [] [] pos) (tCal sp tNil) := by
  obtain ⟨f, fd, G, m, kp, b⟩ := c.ex
  exact pe_call0 (pos := pos) (p := p) G (hr.mono hkj) hg m kp b .nil pass0 hdb
end

/-! ways that meet again behind a statement: J tells where -/
def tCut (t : TS) : TS := fun D σ H => ∃ J : L2.St → Hp → Prop, t { D with nx := J } σ H ∧ ∀ σ' H', J σ' H' → D.nx σ' H'
theorem ps_cut {X : Cx} {st : Stmt} {t : TS} (h : PS X st t) : PS X st (tCut t) := ⟨fun pins s σ H D I q => by
  obtain ⟨J, q1, q2⟩ := q
  refine thn (h.run pins s σ H { D with nx := J } I q1) fun f s1 z => ?_
  cases f with
  | next =>
    obtain ⟨σ', H', I', z⟩ := z
    exact ⟨σ', H', I', q2 σ' H' z⟩
  | ret v => exact z
  | brk => exact z
  | cont => exact z⟩

/-! the pen: its list, its cells' list, the cells; how often it was asked (at most m), what is left -/
structure Pn where
  p : Addr
  c : Addr
  ns : List Int
structure Pen (q : Pn) (m : Nat) (H : Hp) : Prop where
  ex : ∃ (i n : Int), H q.p = some (.lst [.ref q.c, .int i, .int n]) ∧ H q.c = some (.lst (q.ns.map V.int)) ∧ q.c ≠ q.p ∧ 0 ≤ i ∧ i ≤ (m : Int) ∧ 0 ≤ n
theorem Pen.same {q : Pn} {m : Nat} {H H' : Hp} (h : Pen q m H) (s : Same H H') : Pen q m H' := by
  obtain ⟨i, n, h1, h2, h3⟩ := h.ex
  exact ⟨i, n, s _ _ h1, s _ _ h2, h3⟩
theorem Pen.mono {q : Pn} {m m' : Nat} {H : Hp} (h : Pen q m H) (l : m ≤ m') : Pen q m' H := by
  obtain ⟨i, n, h1, h2, h3, h4, h5, h6⟩ := h.ex
  exact ⟨i, n, h1, h2, h3, h4, by omega, h6⟩
theorem Pen.lst {q : Pn} {m : Nat} {H : Hp} (h : Pen q m H) : ∃ l, H q.p = some (.lst l) := by
  obtain ⟨i, n, h1, _⟩ := h.ex
  exact ⟨_, h1⟩
theorem Pen.free {q : Pn} {m : Nat} {H : Hp} {a : Addr} (h : Pen q m H) (e : H a = none) : a ≠ q.p ∧ a ≠ q.c := by
  obtain ⟨i, n, h1, h2, _⟩ := h.ex
  refine ⟨fun z => ?_, fun z => ?_⟩
  · rw [z, h1] at e
    cases e
  · rw [z, h2] at e
    cases e
/-- an object that is not the pen's is changed -/
theorem Pen.upd {q : Pn} {m : Nat} {H : Hp} {a : Addr} {o : HO} (h : Pen q m H) (n : a ≠ q.p ∧ a ≠ q.c) : Pen q m (upd H a o) := by
  obtain ⟨i, r, h1, h2, h3⟩ := h.ex
  exact ⟨i, r, by rw [upd_ne n.1.symm]; exact h1, by rw [upd_ne n.2.symm]; exact h2, h3⟩
/-- what stands but for the list at p stands -/
def Kp (p : Addr) (H H' : Hp) : Prop := ∀ a o, (a ≠ p ∨ ∀ l, o ≠ HO.lst l) → H a = some o → H' a = some o
theorem Kp.refl {p : Addr} {H : Hp} : Kp p H H := fun _ _ _ h => h
theorem Kp.trans {p : Addr} {H H1 H2 : Hp} (a : Kp p H H1) (b : Kp p H1 H2) : Kp p H H2 := fun c o n h => b c o n (a c o n h)
theorem Kp.same {p : Addr} {H H' : Hp} (s : Same H H') : Kp p H H' := fun a o _ h => s a o h
theorem Kp.tup {p a : Addr} {H H' : Hp} {xs : List V} (k : Kp p H H') (h : H a = some (.tup xs)) : H' a = some (.tup xs) := k a _ (.inr fun l z => by cases z) h
theorem Kp.lst {p a : Addr} {H H' : Hp} {xs : List V} (k : Kp p H H') (n : a ≠ p) (h : H a = some (.lst xs)) : H' a = some (.lst xs) := k a _ (.inl n) h
theorem Kp.ins {p a C dx : Addr} {H H' : Hp} {fs : List (Str × V)} (k : Kp p H H') (h : H a = some (.ins C dx fs)) : H' a = some (.ins C dx fs) := k a _ (.inr fun l z => by cases z) h
/-- what a call with the pen leaves: all but the pen as it was, a pen again -/
structure Go (q : Pn) (m : Nat) (H H' : Hp) : Prop where
  kp : Kp q.p H H'
  pen : Pen q m H'
theorem Go.refl {q : Pn} {m : Nat} {H : Hp} (h : Pen q m H) : Go q m H H := ⟨Kp.refl, h⟩
theorem Go.trans {q : Pn} {m m' : Nat} {H H1 H2 : Hp} (a : Go q m H H1) (b : Go q m' H1 H2) : Go q m' H H2 := ⟨a.kp.trans b.kp, b.pen⟩
theorem Go.mono {q : Pn} {m m' : Nat} {H H' : Hp} (a : Go q m H H') (l : m ≤ m') : Go q m' H H' := ⟨a.kp, a.pen.mono l⟩
theorem Go.same {q : Pn} {m : Nat} {H H1 H2 : Hp} (a : Go q m H H1) (s : Same H1 H2) : Go q m H H2 := ⟨a.kp.trans (Kp.same s), a.pen.same s⟩
theorem Go.of {q : Pn} {m : Nat} {H H1 : Hp} (h : Pen q m H) (s : Same H H1) : Go q m H H1 := ⟨Kp.same s, h.same s⟩
/-- the pen's own list is stored into -/
theorem Go.at_ {q : Pn} {m m' : Nat} {H : Hp} {l : List V} (h : Pen q m H) (e : Pen q m' (L2.upd H q.p (.lst l))) : Go q m' H (L2.upd H q.p (.lst l)) := ⟨fun a o n k => by
  by_cases z : a = q.p
  · obtain ⟨l', e'⟩ := h.lst
    rcases n with n | n
    · exact absurd z n
    · rw [z, e'] at k
      exact absurd (Option.some.inj k).symm (n l')
  · rw [upd_ne z]
    exact k, e⟩
/-- a list that is new since H is changed -/
theorem Go.mut {q : Pn} {m : Nat} {H H' : Hp} {D : Addr} {o : HO} (h : Pen q m H) (hD : H D = none) {m' : Nat} (g : Go q m' H H') : Go q m' H (L2.upd H' D o) :=
  ⟨fun a u n e => by rw [upd_ne (ne_of_none e hD)]; exact g.kp a u n e, g.pen.upd (h.free hD)⟩
theorem Go.none {q : Pn} {m m' : Nat} {H H' : Hp} {a : Addr} (g : Go q m H H') (h : Pen q m' H) (e : H' a = none) : H a = none := by
  have z := (g.pen.free e).1
  cases k : H a with
  | none => rfl
  | some o =>
    rw [g.kp a o (.inl z) k] at e
    cases e
theorem sz {n : Nat} (h : n ≤ 100000) : n ≤ sizeLine := Nat.le_trans h (by decide)
theorem szr {n : Nat} (h : Nat.ble n 100000 = true := by rfl) : n ≤ sizeLine := sz (Nat.le_of_ble_eq_true h)
theorem szl {n : Nat} (h : n < 100000) : n < sizeLine := Nat.lt_of_lt_of_le h (by decide)

/-! data -/
def ivs (ns : List Int) : List V := ns.map V.int
def dvs (ns : List Int) : List PyData := ns.map PyData.int
theorem dp_ints {K : PySem.W.Frag} {H : Hp} : ∀ ns : List Int, DpAll K H (ivs ns) (dvs ns)
  | [] => .nil
  | n :: ns => .cons (.int n) (dp_ints ns)
theorem lay_ints : ∀ ns : List Int, PyData.canLayAll0 (dvs ns) = true
  | [] => rfl
  | n :: ns => by
    show (PyData.canLay0 (.int n) && PyData.canLayAll0 (dvs ns)) = true
    rw [lay_ints ns]
    rfl
theorem deep_ints : ∀ ns : List Int, PyData.depthAll (dvs ns) = 0
  | [] => rfl
  | n :: ns => by
    show max (PyData.depth (.int n)) (PyData.depthAll (dvs ns)) = 0
    rw [deep_ints ns]
    rfl
theorem eqv_nil (ns : List Int) : PyData.eqv (.list (dvs ns)) (.list []) = ns.isEmpty := by
  cases ns <;> rfl
def rNeNil : R2 := fun x y H Q => ∃ a b ns, x = .ref a ∧ y = .ref b ∧ H a = some (.lst (ivs ns)) ∧ H b = some (.lst []) ∧ Q (.bl (!ns.isEmpty)) H
theorem op_neNil {X : Cx} (hu : X.A.units + 64 < cLine) : OpR X (compareOp .NotEq) rNeNil := op_imp (op_neD hu) fun x y H Q h => by
  obtain ⟨a, b, ns, rfl, rfl, h1, h2, q⟩ := h
  refine ⟨.list (dvs ns), .list [], .lst (SqL.of h1) (dp_ints ns), .lst (SqL.of h2) .nil, ?_, by decide, ?_⟩
  · show (PyData.canLayAll0 (dvs ns) && decide (PyData.depthAll (dvs ns) + 1 ≤ 64)) = true
    rw [lay_ints, deep_ints]
    rfl
  · rw [eqv_nil]
    exact q
end Af

set_option Elab.async false
set_option linter.all false
set_option maxRecDepth 100000
namespace Af
open PySem L2
def top (i : Nat) : Stmt := PySem.Challenge.pw_afterfall_k36_harm_known.main.body.getD i (.Pass ⟨0, 0, 0, 0⟩)
/-- names of the built-ins that the text does not hide -/
structure Txt (mg : Str → Option Value) : Prop where
  len : mg "len" = none
  int : mg "int" = none
  list : mg "list" = none
  tuple : mg "tuple" = none
  range : mg "range" = none
  min : mg "min" = none
  all : mg "all" = none
  enumerate : mg "enumerate" = none
  zip : mg "zip" = none
  isinstance : mg "isinstance" = none
  bool : mg "bool" = none
abbrev s_l_pen : Stmt := top 41
abbrev N_l_pen : List Str := ["_law_script"]
theorem sc_l_pen : FnScope N_l_pen ["_law_script"] (defScope s_l_pen) := ⟨rfl, rfl, rfl, by decide +kernel, rfl, by decide +kernel, by decide +kernel⟩

abbrev s_l_next : Stmt := top 42
abbrev N_l_next : List Str := ["_law_pen_here", "_law_index", "_law_cell_here", "_law_some_here", "_law_more", "_law_high"]
theorem sc_l_next : FnScope N_l_next ["_law_pen_here"] (defScope s_l_next) := ⟨rfl, rfl, rfl, by decide +kernel, rfl, by decide +kernel, by decide +kernel⟩

abbrev s_l_draw : Stmt := top 43
abbrev N_l_draw : List Str := ["_law_pen_here", "_law_under", "_law_digit"]
theorem sc_l_draw : FnScope N_l_draw ["_law_pen_here", "_law_under"] (defScope s_l_draw) := ⟨rfl, rfl, rfl, by decide +kernel, rfl, by decide +kernel, by decide +kernel⟩

def sp_pen (K : PySem.W.Frag) : Sp := fun vs H Q _ => ∃ (a : Addr) (ns : List Int), vs = [.ref a] ∧ SqL K H a (ns.map V.int) ∧ ∀ (q : Pn) H', Same H H' → H q.p = none → H q.c = none → Pen q 0 H' → Q (.ref q.p) H'
def sp_next : Sp := fun vs H Q _ => ∃ (q : Pn) (m : Nat), vs = [.ref q.p] ∧ Pen q m H ∧ m < 1000000000000 ∧ ∀ r H', 0 ≤ r → Go q (m + 1) H H' → Q (.int r) H'
def sp_draw : Sp := fun vs H Q _ => ∃ (q : Pn) (m : Nat) (u : Int), vs = [.ref q.p, .int u] ∧ 0 < u ∧ u < 1073741824 ∧ Pen q m H ∧ m < 1000000000000 ∧ ∀ d H', 0 ≤ d → d < u → Go q (m + 1) H H' → Q (.int d) H'
section
variable {P : Program} {w : World} {K : PySem.W.Frag} {mg : Str → Option Value} {base : Heap}
theorem ok_pen {f : Addr} {fd : FuncData} (F : Fun K "_law_pen" "_law_pen" s_l_pen f fd) (T : Txt mg) : FnOk P w K mg base CX0 1 f fd ["_law_script"] (sp_pen K) := by
  refine F.ok sc_l_pen (fun vs H Q E h => ?_) (fun cdv A outer s H vs Q E hr h => ?_)
  · obtain ⟨a, ns, rfl, _⟩ := h
    rfl
  obtain ⟨a, ns, rfl, hS, k⟩ := h
  refine ⟨_, (pss_one (ps_ret (pe_lst' (pa_cons (pe_callTy call_list' (by rfl) T.list (by decide +kernel) (pa_cons (pe_slice sl_list (pv 0) po_none (po_some pe_int)) pa_nil)) (pa_cons pe_int (pa_cons pe_int pa_nil)))))), ?_⟩
  refine ⟨_, rfl, 60, rfl, a, _, rfl, hS, fun c hc => ?_⟩
  have e1 : cutV (ns.map V.int) none (some 60) = (ns.take 60).map V.int := by
    unfold cutV
    have : HT.sIx (ns.map V.int).length (ns.map V.int).length (some 60) = min 60 (ns.map V.int).length := HT.sIx_nat _ _ 60
    rw [this, HT.sIx_none, List.drop_zero, Nat.sub_zero, ← List.map_take]
    congr 1
    rw [List.length_map]
    rcases Nat.le_total 60 ns.length with z | z
    · rw [Nat.min_eq_left z]
    · rw [Nat.min_eq_right z, List.take_of_length_le z, List.take_of_length_le (Nat.le_refl _)]
  refine ⟨c, _, rfl, .inl upd_same, fun d H1 hd s1 hd1 => ?_⟩
  refine ⟨sz (by show 3 ≤ 100000; decide), fun p H2 hp s2 hp2 => ?_⟩
  refine k ⟨p, d, ns.take 60⟩ H2 ((same_new hc).trans (s1.trans s2)) ?_ ?_ ⟨0, 0, hp2, ?_, ?_, Int.le_refl _, Int.le_refl _, Int.le_refl _⟩
  · exact (same_new hc).free (s1.free hp)
  · exact (same_new hc).free hd
  · rw [← e1]
    exact s2 _ _ hd1
  · intro z
    have z' : d = p := z
    rw [← z', hd1] at hp
    cases hp
theorem mod_in {i n : Int} (h : 0 < n) : 0 ≤ i % n ∧ i % n < n := ⟨Int.emod_nonneg i (by omega), Int.emod_lt_of_pos i h⟩
theorem at_mod {ns : List Int} {i : Int} (h : ns ≠ []) : ∃ z, atI (ivs ns) (i % ((ivs ns).length : Int)) = some (.int z) := by
  have hl : 0 < (ivs ns).length := by
    unfold ivs
    rw [List.length_map]
    exact List.length_pos_iff.mpr h
  obtain ⟨a, b⟩ := mod_in (i := i) (n := ((ivs ns).length : Int)) (by omega)
  obtain ⟨j, hj⟩ := Int.eq_ofNat_of_zero_le a
  rw [hj] at b ⊢
  have hj' : j < ns.length := by
    unfold ivs at b
    rw [List.length_map] at b
    omega
  refine ⟨ns[j], atI_nat ?_⟩
  unfold ivs
  rw [List.getElem?_map, List.getElem?_eq_getElem hj']
  rfl
theorem ok_next {f : Addr} {fd : FuncData} (F : Fun K "_law_next" "_law_next" s_l_next f fd) (T : Txt mg) : FnOk P w K mg base CX0 1 f fd ["_law_pen_here"] sp_next := by
  refine F.ok sc_l_next (fun vs H Q E h => ?_) (fun cdv A outer s H vs Q E hr h => ?_)
  · obtain ⟨a, m, rfl, _⟩ := h
    rfl
  obtain ⟨q, m, rfl, hP, hm, k⟩ := h
  obtain ⟨i, n, h1, h2, hc, hi, him, hn⟩ := hP.ex
  refine ⟨_, (pss_cons (ps_set (i := 1) sc_l_next.nd rfl (Or.inl rfl) (pe_ix ix_seq' (pv 0) pe_int (fun _ _ => rfl)))
    (pss_cons (ps_asg (pe_op op_add (pv 1) pe_int) (pg_sub (pv 0) pe_int set_list))
    (pss_cons (ps_set (i := 2) sc_l_next.nd rfl (Or.inl rfl) (pe_op op_add (pe_op op_mul (pv 1) pe_int) pe_int))
    (pss_cons (ps_cut (ps_if (pt_cmpR (op_neNil hr.units) (pe_ix ix_seq' (pv 0) pe_int (fun _ _ => rfl)) (pe_lst' pa_nil) (nomark _))
      (pss_one (ps_set (i := 2) sc_l_next.nd rfl (Or.inl rfl) (pe_ix ix_seq' (pe_ix ix_seq' (pv 0) pe_int (fun _ _ => rfl)) (pe_op op_mod (pe_callTy call_int1 (by rfl) T.int (by decide +kernel) (pa_cons (pv 1) pa_nil)) (pe_callB call_len' (by rfl) T.len (by decide +kernel) (pa_cons (pe_ix ix_seq' (pv 0) pe_int (fun _ _ => rfl)) pa_nil))) (fun _ _ => rfl))))
      pss_nil))
    (pss_cons (ps_cut (ps_if (PW.pt (pw_and (pt_cmpR op_lt (pv 1) (pe_callB call_len' (by rfl) T.len (by decide +kernel) (pa_cons (pe_ix ix_seq' (pv 0) pe_int (fun _ _ => rfl)) pa_nil)) (nomark _)) (pw_and1 (pt_cmpR op_ge (pv 2) (pe_op op_pow pe_int pe_int) (nomark _)))))
      (pss_one (ps_ret (pv 2)))
      pss_nil))
    (pss_cons (ps_set (i := 3) sc_l_next.nd rfl (Or.inl rfl) (pe_op op_mod (pe_callTy call_int1 (by rfl) T.int (by decide +kernel) (pa_cons (pe_op op_add (pe_op op_add (pe_op op_mod (pe_callTy call_int1 (by rfl) T.int (by decide +kernel) (pa_cons (pv 2) pa_nil)) pe_int) (pe_op op_mul (pv 1) pe_int)) pe_int) pa_nil)) pe_int))
    (pss_cons (ps_set (i := 4) sc_l_next.nd rfl (Or.inl rfl) (pe_op op_mod (pe_callTy call_int1 (by rfl) T.int (by decide +kernel) (pa_cons (pe_op op_add (pe_op op_add (pe_op op_mul (pv 3) (pv 3)) (pe_op op_mul (pv 1) pe_int)) pe_int) pa_nil)) pe_int))
    (pss_cons (ps_set (i := 5) sc_l_next.nd rfl (Or.inl rfl) (pe_op op_mod (pe_callTy call_int1 (by rfl) T.int (by decide +kernel) (pa_cons (pe_op op_add (pe_op op_add (pe_op op_mul (pv 4) (pv 4)) (pv 3)) (pe_op op_mul (pe_op op_mul (pv 1) (pv 1)) pe_int)) pa_nil)) pe_int))
    (pss_one (ps_ret (pe_op op_add (pe_op op_mul (pe_op op_add (pe_op op_mul (pv 5) pe_int) (pv 4)) pe_int) (pv 3)))))))))))), ?_⟩
  -- the count, the cell
  refine ⟨_, rfl, q.p, _, _, _, rfl, rfl, .inl h1, rfl, ?_⟩
  refine ⟨_, rfl, _, _, rfl, rfl, _, rfl, q.p, _, _, _, rfl, rfl, h1, rfl, ?_⟩
  refine ⟨_, rfl, _, _, rfl, rfl, .inr ⟨by decide, by decide⟩, _, _, rfl, rfl, ?_⟩
  have e1 : (upd H q.p (.lst [.ref q.c, .int (i + 1), .int n])) q.p = some (.lst [.ref q.c, .int (i + 1), .int n]) := upd_same
  have g1 : Go q (m + 1) H (upd H q.p (.lst [.ref q.c, .int (i + 1), .int n])) := Go.at_ hP ⟨i + 1, n, upd_same, by rw [upd_ne hc]; exact h2, hc, by omega, by omega, hn⟩
  have e2 : (upd H q.p (.lst [.ref q.c, .int (i + 1), .int n])) q.c = some (.lst (ivs q.ns)) := by rw [upd_ne hc]; exact h2
  refine ⟨fun σ' H' => ∃ cell : Int, σ' = [some (.ref q.p), some (.int i), some (.int cell), none, none, none] ∧ Go q (m + 1) H H' ∧ H' q.p = some (.lst [.ref q.c, .int (i + 1), .int n]) ∧ H' q.c = some (.lst (ivs q.ns)), ?_, ?_⟩
  · refine ⟨_, rfl, q.p, _, _, _, rfl, rfl, .inl e1, rfl, ?_⟩
    refine ⟨sz (by decide), fun e H1 he s1 he1 => ?_⟩
    have k1 := s1 _ _ e1
    have k2 := s1 _ _ e2
    have g2 := g1.same s1
    refine ⟨q.c, e, q.ns, rfl, rfl, k2, he1, _, rfl, ?_⟩
    by_cases hns : q.ns = []
    · have z : (!q.ns.isEmpty) = false := by rw [hns]; rfl
      rw [z]
      exact iteF ⟨_, rfl, g2, k1, k2⟩
    · have z : (!q.ns.isEmpty) = true := by
        cases e : q.ns with
        | nil => exact absurd e hns
        | cons a b => rfl
      rw [z]
      refine iteT ?_
      obtain ⟨v, hv⟩ := at_mod (i := i) hns
      refine ⟨_, rfl, q.p, _, _, _, rfl, rfl, .inl k1, rfl, ?_⟩
      refine ⟨_, rfl, .inl ⟨_, rfl, ?_⟩⟩
      refine ⟨_, rfl, q.p, _, _, _, rfl, rfl, .inl k1, rfl, q.c, _, rfl, .inl k2, ?_⟩
      refine ⟨_, _, rfl, rfl, ?_, q.c, _, _, _, rfl, rfl, .inl k2, hv, ?_⟩
      · unfold ivs
        rw [List.length_map]
        have := List.length_pos_iff.mpr hns
        omega
      · exact ⟨v, rfl, g2, k1, k2⟩
  · rintro σ' H' ⟨cell, rfl, g2, k1, k2⟩
    -- a great cell is taken as it is
    refine ⟨fun σ'' H'' => σ'' = [some (.ref q.p), some (.int i), some (.int cell), none, none, none] ∧ H'' = H', ?_, ?_⟩
    · refine ⟨_, rfl, _, rfl, q.p, _, _, _, rfl, rfl, .inl k1, rfl, q.c, _, rfl, .inl k2, ?_⟩
      refine ⟨_, _, rfl, rfl, _, rfl, ite2 (fun _ => ?_) (fun _ => iteF ⟨rfl, rfl⟩)⟩
      refine ⟨_, rfl, _, _, rfl, rfl, ⟨by decide, by decide, by decide⟩, _, _, rfl, rfl, _, rfl, ite2 (fun q => ?_) (fun _ => ⟨rfl, rfl⟩)⟩
      refine ⟨_, rfl, k cell H' ?_ g2⟩
      have q' : (10 : Int) ^ (18 : Nat) ≤ cell := of_decide_eq_true q
      omega
    · rintro σ'' H'' ⟨rfl, rfl⟩
      have M1 : (0 : Int) < 2147483587 := by decide
      refine ⟨_, rfl, .inl ⟨_, rfl, _, _, rfl, rfl, M1, ?_⟩⟩
      refine ⟨_, rfl, _, _, rfl, rfl, .inr ⟨by decide, by decide⟩, _, _, rfl, rfl, _, _, rfl, rfl, .inl ⟨_, rfl, _, _, rfl, rfl, M1, ?_⟩⟩
      generalize hs : ((cell % 2147483587 + i * 30119 + 89) % 2147483587 : Int) = some1
      have b1 := mod_in (i := cell % 2147483587 + i * 30119 + 89) M1
      rw [hs] at b1
      have M2 : (0 : Int) < 2147483563 := by decide
      refine ⟨_, rfl, _, rfl, _, _, rfl, rfl, .inl ⟨by omega, by omega⟩, _, rfl, _, _, rfl, rfl, .inr ⟨by decide, by decide⟩, _, _, rfl, rfl, _, _, rfl, rfl, .inl ⟨_, rfl, _, _, rfl, rfl, M2, ?_⟩⟩
      generalize hs2 : ((some1 * some1 + i * 70061 + 71) % 2147483563 : Int) = more
      have b2 := mod_in (i := some1 * some1 + i * 70061 + 71) M2
      rw [hs2] at b2
      have M3 : (0 : Int) < 2147483549 := by decide
      refine ⟨_, rfl, _, rfl, _, _, rfl, rfl, .inl ⟨by omega, by omega⟩, _, rfl, _, _, rfl, rfl, _, rfl, _, rfl, _, _, rfl, rfl, .inl ⟨by omega, by omega⟩, _, _, rfl, rfl, .inr ⟨by decide, by decide⟩, _, _, rfl, rfl, .inl ⟨_, rfl, _, _, rfl, rfl, M3, ?_⟩⟩
      generalize hs3 : ((more * more + some1 + i * i * 47) % 2147483549 : Int) = high
      have b3 := mod_in (i := more * more + some1 + i * i * 47) M3
      rw [hs3] at b3
      refine ⟨_, rfl, _, _, rfl, rfl, .inr ⟨by decide, by decide⟩, _, rfl, _, _, rfl, rfl, _, _, rfl, rfl, .inr ⟨by decide, by decide⟩, _, rfl, _, _, rfl, rfl, ?_⟩
      exact k _ H'' (by omega) g2
theorem ok_draw {f : Addr} {fd : FuncData} (F : Fun K "_law_draw" "_law_draw" s_l_draw f fd) (T : Txt mg) (c_l_next : Cal P w K mg base 1 "_law_next" ["_law_pen_here"] sp_next) : FnOk P w K mg base CX0 2 f fd ["_law_pen_here", "_law_under"] sp_draw := by
  refine F.ok sc_l_draw (fun vs H Q E h => ?_) (fun cdv A outer s H vs Q E hr h => ?_)
  · obtain ⟨a, m, u, rfl, _⟩ := h
    rfl
  obtain ⟨q, m, u, rfl, u0, u1, hP, hm, k⟩ := h
  refine ⟨_, (pss_cons (ps_cut (ps_if (pt_cmpR op_lt (pe_ix ix_seq' (pv 0) pe_int (fun _ _ => rfl)) (pv 1) (nomark _))
      (pss_one (ps_asg (pe_cal c_l_next hr (pa_cons (pv 0) pa_nil)) (pg_sub (pv 0) pe_int set_list)))
      pss_nil))
    (pss_cons (ps_set (i := 2) sc_l_draw.nd rfl (Or.inl rfl) (pe_op op_mod (pe_callTy call_int1 (by rfl) T.int (by decide +kernel) (pa_cons (pe_ix ix_seq' (pv 0) pe_int (fun _ _ => rfl)) pa_nil)) (pv 1)))
    (pss_cons (ps_asg (pe_op op_fdiv (pe_ix ix_seq' (pv 0) pe_int (fun _ _ => rfl)) (pv 1)) (pg_sub (pv 0) pe_int set_list))
    (pss_one (ps_ret (pv 2)))))), ?_⟩
  refine ⟨fun σ' H' => ∃ i n, σ' = [some (.ref q.p), some (.int u), none] ∧ Go q (m + 1) H H' ∧ H' q.p = some (.lst [.ref q.c, .int i, .int n]) ∧ H' q.c = some (.lst (ivs q.ns)) ∧ q.c ≠ q.p ∧ 0 ≤ i ∧ i ≤ ((m + 1 : Nat) : Int) ∧ 0 ≤ n, ?_, ?_⟩
  · obtain ⟨i, n, h1, h2, hc, hi, him, hn⟩ := hP.ex
    refine ⟨_, rfl, q.p, _, _, _, rfl, rfl, .inl h1, rfl, _, rfl, _, _, rfl, rfl, _, rfl, ite2 (fun _ => ?_) (fun _ => ?_)⟩
    · refine ⟨_, rfl, q, m, rfl, hP, hm, fun r H1 r0 g1 => ?_⟩
      obtain ⟨i, n, h1, h2, hc, hi, him, hn⟩ := g1.pen.ex
      refine ⟨_, rfl, q.p, _, _, _, rfl, rfl, h1, rfl, i, r, rfl, ?_, upd_same, by rw [upd_ne hc]; exact h2, hc, hi, him, r0⟩
      exact g1.trans (Go.at_ g1.pen ⟨i, r, upd_same, by rw [upd_ne hc]; exact h2, hc, hi, him, r0⟩)
    · exact ⟨i, n, rfl, (Go.refl hP).mono (Nat.le_succ m), h1, h2, hc, hi, by omega, hn⟩
  · rintro σ' H' ⟨i, n, rfl, g1, h1, h2, hc, hi, him, hn⟩
    refine ⟨_, rfl, q.p, _, _, _, rfl, rfl, .inl h1, rfl, .inl ⟨_, rfl, _, rfl, _, _, rfl, rfl, u0, ?_⟩⟩
    refine ⟨_, rfl, q.p, _, _, _, rfl, rfl, .inl h1, rfl, _, rfl, _, _, rfl, rfl, ⟨u0, u1⟩, _, rfl, q.p, _, _, _, rfl, rfl, h1, rfl, ?_⟩
    obtain ⟨b0, b1⟩ := mod_in (i := n) u0
    refine ⟨_, rfl, k _ _ b0 b1 (g1.trans (Go.at_ g1.pen ⟨i, n / u, upd_same, by rw [upd_ne hc]; exact h2, hc, hi, him, Int.ediv_nonneg hn (by omega)⟩))⟩
end
end Af

set_option Elab.async false
set_option linter.all false
set_option maxRecDepth 100000
namespace Af
open PySem L2
theorem same_mut {H H' : Hp} {D : Addr} {o : HO} (s : Same H H') (h : H D = none) : Same H (upd H' D o) := fun a u e => by
  rw [upd_ne (ne_of_none e h)]
  exact s a u e
/-! data: a step, a plan's parts -/
abbrev Stp := Option (Int × List Int)
def StepV (H : Hp) : V → Stp → Prop
  | x, none => x = .non
  | x, some (f, ws) => ∃ a b, x = .ref a ∧ H a = some (.tup [.int f, .ref b]) ∧ H b = some (.tup (ivs ws))
structure Pl where
  cs : List Int
  w : Int
  sts : List Stp
structure PlanV (p : Addr) (H : Hp) (v : V) (pl : Pl) : Prop where
  ex : ∃ a ca sa xs, v = .ref a ∧ H a = some (.tup [.ref ca, .int pl.w, .ref sa]) ∧ H ca = some (.tup (ivs pl.cs)) ∧ sa ≠ p ∧ H sa = some (.lst xs) ∧ Paired (StepV H) xs pl.sts
theorem StepV.kp {p : Addr} {H H' : Hp} (k : Kp p H H') : ∀ {x : V} {st : Stp}, StepV H x st → StepV H' x st
  | x, none, h => h
  | x, some (f, ws), h => by
    obtain ⟨a, b, e, h1, h2⟩ := h
    exact ⟨a, b, e, k.tup h1, k.tup h2⟩
theorem steps_kp {p : Addr} {H H' : Hp} {xs : List V} {sts : List Stp} (k : Kp p H H') (h : Paired (StepV H) xs sts) : Paired (StepV H') xs sts := L2.Paired.mapP h fun _ _ z => z.kp k
theorem steps_same {H H' : Hp} {xs : List V} {sts : List Stp} (k : Same H H') (h : Paired (StepV H) xs sts) : Paired (StepV H') xs sts := steps_kp (p := 0) (Kp.same k) h
theorem PlanV.kp {p : Addr} {H H' : Hp} {v : V} {pl : Pl} (k : Kp p H H') (h : PlanV p H v pl) : PlanV p H' v pl := by
  obtain ⟨a, ca, sa, xs, e, h1, h2, n, h3, h4⟩ := h.ex
  exact ⟨a, ca, sa, xs, e, k.tup h1, k.tup h2, n, k.lst n h3, steps_kp k h4⟩
theorem PlanV.same {p : Addr} {H H' : Hp} {v : V} {pl : Pl} (k : Same H H') (h : PlanV p H v pl) : PlanV p H' v pl := h.kp (Kp.same k)
theorem paired_app {α β : Type} {F : α → β → Prop} : ∀ {a c : List α} {b d : List β}, Paired F a b → Paired F c d → Paired F (a ++ c) (b ++ d)
  | _, _, _, _, .nil, h => h
  | _, _, _, _, .cons r t, h => .cons r (paired_app t h)
theorem paired_take {α β : Type} {F : α → β → Prop} : ∀ {a : List α} {b : List β} (n : Nat), Paired F a b → Paired F (a.take n) (b.take n)
  | _, _, 0, _ => by
    rw [List.take_zero, List.take_zero]
    exact .nil
  | _, _, n + 1, .nil => .nil
  | _, _, n + 1, .cons r t => .cons r (paired_take n t)
theorem paired_drop {α β : Type} {F : α → β → Prop} : ∀ {a : List α} {b : List β} (n : Nat), Paired F a b → Paired F (a.drop n) (b.drop n)
  | _, _, 0, h => h
  | _, _, n + 1, .nil => .nil
  | _, _, n + 1, .cons r t => paired_drop n t
theorem paired_rev {α β : Type} {F : α → β → Prop} : ∀ {a : List α} {b : List β}, Paired F a b → Paired F a.reverse b.reverse
  | _, _, .nil => .nil
  | _, _, .cons r t => by
    rw [List.reverse_cons, List.reverse_cons]
    exact paired_app (paired_rev t) (.cons r .nil)
theorem paired_get {α β : Type} {F : α → β → Prop} : ∀ {a : List α} {b : List β} {i : Nat} {x : α}, Paired F a b → a[i]? = some x → ∃ y, b[i]? = some y ∧ F x y
  | _, _, _, _, .nil, e => by simp at e
  | _, _, 0, x, .cons r _, e => by
    simp at e
    subst e
    exact ⟨_, rfl, r⟩
  | _, _, i + 1, x, .cons _ t, e => by
    obtain ⟨y, h1, h2⟩ := paired_get (i := i) (x := x) t (by simpa using e)
    exact ⟨y, by simpa using h1, h2⟩
theorem paired_len {α β : Type} {F : α → β → Prop} : ∀ {a : List α} {b : List β}, Paired F a b → a.length = b.length
  | _, _, .nil => rfl
  | _, _, .cons _ t => by
    rw [List.length_cons, List.length_cons, paired_len t]
theorem ivs_len (ns : List Int) : (ivs ns).length = ns.length := List.length_map ..
theorem ivs_get {ns : List Int} {i : Nat} (h : i < ns.length) : (ivs ns)[i]? = some (.int ns[i]) := by
  unfold ivs
  rw [List.getElem?_map, List.getElem?_eq_getElem h]
  rfl
/-- a step of a store of n cells -/
def OkS (n : Nat) : Stp → Prop
  | none => True
  | some (f, ws) => 0 ≤ f ∧ ws ≠ [] ∧ f + (ws.length : Int) ≤ (n : Int) ∧ ∀ z ∈ ws, 0 ≤ z ∧ z < 8
def stl : Stp → Nat
  | none => 0
  | some (_, ws) => ws.length
def tot (l : List Stp) : Nat := (l.map stl).sum
theorem tot_nil : tot [] = 0 := rfl
theorem tot_cons (a : Stp) (b : List Stp) : tot (a :: b) = stl a + tot b := by
  unfold tot
  rw [List.map_cons, List.sum_cons]
theorem tot_app (a b : List Stp) : tot (a ++ b) = tot a + tot b := by
  unfold tot
  rw [List.map_append, List.sum_append]
theorem tot_one (a : Stp) : tot [a] = stl a := by
  rw [tot_cons, tot_nil, Nat.add_zero]
theorem tot_take_drop (l : List Stp) (n : Nat) : tot (l.take n) + tot (l.drop n) = tot l := by
  rw [← tot_app, List.take_append_drop]
theorem tot_rev (l : List Stp) : tot l.reverse = tot l := by
  induction l with
  | nil => rfl
  | cons a l ih => rw [List.reverse_cons, tot_app, tot_one, tot_cons, ih, Nat.add_comm]
/-- a plan that the program takes, with room to spare for s steps and t cells of writes -/
structure Good (s t : Nat) (pl : Pl) : Prop where
  c1 : 1 ≤ pl.cs.length
  c24 : pl.cs.length ≤ 24
  cb : ∀ z ∈ pl.cs, 0 ≤ z ∧ z < 8
  w1 : 1 ≤ pl.w
  w24 : pl.w ≤ 24
  st : ∀ x ∈ pl.sts, OkS pl.cs.length x
  sl : pl.sts.length ≤ s
  tl : tot pl.sts ≤ t
theorem Good.mono {s t s' t' : Nat} {pl : Pl} (g : Good s t pl) (h1 : s ≤ s') (h2 : t ≤ t') : Good s' t' pl := ⟨g.c1, g.c24, g.cb, g.w1, g.w24, g.st, Nat.le_trans g.sl h1, Nat.le_trans g.tl h2⟩
/-! a comprehension whose element is a draw -/
theorem lc_draws {te : TE} {j : Nat} {vs : List Nat} {σ : L2.St} {q : Pn} {m n : Nat} {u : Int} {H : Hp} {R : Addr → Hp → Prop} (hP : Pen q m H) (hn : n ≤ 10000)
    (hw : ∀ x, wipe ((wipe σ vs).set j (some x)) vs = wipe σ vs)
    (hte : ∀ (x : V) (H1 : Hp) (Q : VK) (m1 : Nat), Pen q m1 H1 → m1 < m + n → (∀ d H', 0 ≤ d → d < u → Go q (m1 + 1) H1 H' → Q (.int d) H') → te ((wipe σ vs).set j (some x)) H1 Q)
    (k : ∀ D H' ns, H D = none → Go q (m + n) H H' → H' D = some (.lst (ivs ns)) → ns.length = n → (∀ z ∈ ns, 0 ≤ z ∧ z < u) → R D H') :
    ∀ D, H D = none → ∃ W : Nat → Nat → Hp → Prop, (∃ m, W 0 m (upd H D (.lst []))) ∧ ∀ i m H, W i m H →
      ((Itr 0 n).stop i H ∧ R D H) ∨ ((Itr 0 n).go i H ∧ ∃ Nx : Hp → Prop, (∀ H', Nx H' → ∃ m', m' < m ∧ W (i + 1) m' H') ∧ ∀ x H', (Itr 0 n).yld i H x H' → (gName j) x (wipe σ vs) H' fun σ2 H2 => wipe σ2 vs = wipe σ vs ∧ tYes σ2 H2 fun b H3 =>
        if b = true then te σ2 H3 fun y H4 => ∃ acc, H4 D = some (.lst acc) ∧ acc.length < sizeLine ∧ Nx (upd H4 D (.lst (acc ++ [y]))) else Nx H3) := by
  intro D hD
  refine lc_range (lo := 0) (n := n) (g := gName j) (tt := tYes) (te := te) (vs := vs) (σ := σ) (H1 := H) (D := D) (Qd := fun H' => R D H')
    (fun i H' => ∃ ns, Go q (m + i) H H' ∧ H' D = some (.lst (ivs ns)) ∧ ns.length = i ∧ ∀ z ∈ ns, 0 ≤ z ∧ z < u) ?_ ?_ ?_
  · exact ⟨[], (Go.of hP (same_new hD)), upd_same, rfl, fun z hz => by simp at hz⟩
  · rintro i H' hi ⟨ns, g, hL, hl, hb⟩
    refine ⟨hw _, ?_⟩
    refine hte _ _ _ _ g.pen (by omega) fun d H'' d0 d1 g2 => ?_
    have hD2 : H'' D = some (.lst (ivs ns)) := g2.kp.lst (hP.free hD).1 hL
    refine ⟨_, hD2, by rw [ivs_len, hl]; exact szl (by omega), ns ++ [d], ?_, ?_, by rw [List.length_append, hl]; rfl, fun z hz => ?_⟩
    · exact Go.mut hP hD ((g.trans g2).mono (by omega))
    · rw [upd_same]
      unfold ivs
      rw [List.map_append]
      rfl
    · rcases List.mem_append.mp hz with hz | hz
      · exact hb z hz
      · rw [List.mem_singleton.mp hz]
        exact ⟨d0, d1⟩
  · rintro H' ⟨ns, g, hL, hl, hb⟩
    exact k D H' ns hD g hL hl hb
end Af

set_option Elab.async false
set_option linter.all false
set_option maxRecDepth 100000
namespace Af
open PySem L2
/-! things of any kind, and what they are -/
def tyNames : List String := ["NoneType", "bool", "int", "str", "list", "tuple", "dict"]
def clNames : List String := ["int", "bool", "tuple", "list", "dict", "str"]
def isB (n c : String) : Bool := n == c || (n == "bool" && c == "int")
theorem kit_all : ∀ n ∈ tyNames, ∀ c ∈ clNames, kitB n c = some (isB n c) := by decide +kernel
structure Ty (K : PySem.W.Frag) (H : Hp) (x : V) (n : String) : Prop where
  ty : TyOf K H x (.type n)
  mem : n ∈ tyNames
  nf : ∀ a o u, x = .ref a → H a ≠ some (.frz o u)
def rIsi' (K : PySem.W.Frag) : List V → Hp → VK → Prop := fun xs H Q => ∃ x n c, xs = [x, .ty c] ∧ Ty K H x n ∧ c ∈ clNames ∧ Q (.bl (isB n c)) H
theorem call_isi' {X : Cx} : CallR X (.builtin "isinstance") (rIsi' X.K) := call_imp call_isi fun xs H Q h => by
  obtain ⟨x, n, c, e, t, hc, q⟩ := h
  exact ⟨x, .ty c, _, _, _, e, .ty c, .base t.ty, kit_ty (kit_all n t.mem c hc), q⟩
theorem tyof_at {K : PySem.W.Frag} {H : Hp} {a : Addr} {n : String} (t : TyOf K H (.ref a) (.type n)) : ∃ o, H a = some o := by
  cases t with
  | lst e => exact ⟨_, e⟩
  | frz e => exact ⟨_, e⟩
  | tup e => exact ⟨_, e⟩
  | dK e => exact ⟨_, e⟩
  | dT e => exact ⟨_, e⟩
theorem Ty.same {K : PySem.W.Frag} {H H' : Hp} {x : V} {n : String} (s : Same H H') (t : Ty K H x n) : Ty K H' x n := by
  obtain ⟨t, m, nf⟩ := t
  refine ⟨?_, m, fun a o u e z => ?_⟩
  · cases t with
    | non => exact .non
    | bl b => exact .bl b
    | int i => exact .int i
    | str z => exact .str z
    | lst e => exact .lst (s _ _ e)
    | frz e => exact .frz (s _ _ e)
    | tup e => exact .tup (s _ _ e)
    | dK e => exact .dK (s _ _ e)
    | dT e => exact .dT (s _ _ e)
    | flt z => exact .flt z
  · subst e
    obtain ⟨o', ho⟩ := tyof_at t
    rw [s _ _ ho] at z
    exact nf a o u rfl (ho.trans z)
theorem ty_int {K : PySem.W.Frag} {H : Hp} {x : V} {n : String} (t : Ty K H x n) (h : n = "int") : ∃ i, x = .int i := by
  obtain ⟨t, _, nf⟩ := t
  generalize e : Value.type n = v at t
  subst h
  cases t with
  | int i => exact ⟨i, rfl⟩
  | ins => cases e
  | _ => exact absurd (by injection e) (by decide)
theorem ty_tup {K : PySem.W.Frag} {H : Hp} {x : V} {n : String} (t : Ty K H x n) (h : n = "tuple") : ∃ a xs, x = .ref a ∧ H a = some (.tup xs) := by
  obtain ⟨t, _, nf⟩ := t
  generalize e : Value.type n = v at t
  subst h
  cases t with
  | tup z => exact ⟨_, _, rfl, z⟩
  | ins => cases e
  | _ => exact absurd (by injection e) (by decide)
theorem ty_lst {K : PySem.W.Frag} {H : Hp} {x : V} {n : String} (t : Ty K H x n) (h : n = "list") : ∃ a xs, x = .ref a ∧ H a = some (.lst xs) := by
  obtain ⟨t, _, nf⟩ := t
  generalize e : Value.type n = v at t
  subst h
  cases t with
  | lst z => exact ⟨_, _, rfl, z⟩
  | frz z => exact absurd z (nf _ _ _ rfl)
  | ins => cases e
  | _ => exact absurd (by injection e) (by decide)
theorem no_int {K : PySem.W.Frag} {H : Hp} {x : V} {n : String} (t : Ty K H x n) (h : n ≠ "int") : ∀ i, x ≠ .int i := fun i e => by
  subst e
  cases t.ty with
  | int i => exact h rfl
theorem no_tup {K : PySem.W.Frag} {H : Hp} {x : V} {n : String} (t : Ty K H x n) (h : n ≠ "tuple") : ∀ a xs, x = .ref a → H a ≠ some (.tup xs) := fun a xs e z => by
  subst e
  cases t.ty with
  | tup e => exact h rfl
  | lst e => rw [e] at z; cases z
  | frz e => rw [e] at z; cases z
  | dK e => rw [e] at z; cases z
  | dT e => rw [e] at z; cases z
/-- a thing whose parts are things, to a depth -/
def Th (K : PySem.W.Frag) (H : Hp) : Nat → V → Prop
  | 0, x => ∃ n, Ty K H x n
  | d + 1, x => (∃ n, Ty K H x n) ∧ ∀ a xs, x = .ref a → (H a = some (.tup xs) ∨ H a = some (.lst xs)) → xs.length ≤ 100000 ∧ ∀ y ∈ xs, Th K H d y
theorem Th.ty {K : PySem.W.Frag} {H : Hp} : ∀ {d : Nat} {x : V}, Th K H d x → ∃ n, Ty K H x n
  | 0, _, h => h
  | _ + 1, _, h => h.1
theorem ty_at {K : PySem.W.Frag} {H : Hp} {a : Addr} {n : String} (t : Ty K H (.ref a) n) : ∃ o, H a = some o := tyof_at t.ty
theorem Th.same {K : PySem.W.Frag} {H H' : Hp} (s : Same H H') : ∀ {d : Nat} {x : V}, Th K H d x → Th K H' d x
  | 0, _, ⟨n, h⟩ => ⟨n, h.same s⟩
  | d + 1, x, ⟨⟨n, h⟩, k⟩ => ⟨⟨n, h.same s⟩, fun a xs e z => by
    subst e
    obtain ⟨o, ho⟩ := ty_at h
    have e' := s _ _ ho
    have z' : H a = some (.tup xs) ∨ H a = some (.lst xs) := by
      rcases z with z | z
      · rw [e'] at z
        rw [ho]
        exact .inl z
      · rw [e'] at z
        rw [ho]
        exact .inr z
    exact ⟨(k a xs rfl z').1, fun y hy => ((k a xs rfl z').2 y hy).same s⟩⟩
theorem th_int {K : PySem.W.Frag} {H : Hp} {i : Int} : ∀ {d : Nat}, Th K H d (.int i)
  | 0 => ⟨"int", .int i, by decide, fun _ _ _ e => by cases e⟩
  | _ + 1 => ⟨⟨"int", .int i, by decide, fun _ _ _ e => by cases e⟩, fun a xs e => by cases e⟩
theorem th_non {K : PySem.W.Frag} {H : Hp} : ∀ {d : Nat}, Th K H d .non
  | 0 => ⟨"NoneType", .non, by decide, fun _ _ _ e => by cases e⟩
  | _ + 1 => ⟨⟨"NoneType", .non, by decide, fun _ _ _ e => by cases e⟩, fun a xs e => by cases e⟩
theorem th_tup {K : PySem.W.Frag} {H : Hp} {a : Addr} {xs : List V} (e : H a = some (.tup xs)) (hl : xs.length ≤ 100000) : ∀ {d : Nat}, (∀ y ∈ xs, Th K H d y) → Th K H (d + 1) (.ref a) := fun {d} k =>
  ⟨⟨"tuple", .tup e, by decide, fun b o u z h => by cases z; rw [e] at h; cases h⟩, fun b ys z h => by
    cases z
    rcases h with h | h
    · rw [e] at h
      cases h
      exact ⟨hl, k⟩
    · rw [e] at h
      cases h⟩
theorem th_lst {K : PySem.W.Frag} {H : Hp} {a : Addr} {xs : List V} (e : H a = some (.lst xs)) (hl : xs.length ≤ 100000) : ∀ {d : Nat}, (∀ y ∈ xs, Th K H d y) → Th K H (d + 1) (.ref a) := fun {d} k =>
  ⟨⟨"list", .lst e, by decide, fun b o u z h => by cases z; rw [e] at h; cases h⟩, fun b ys z h => by
    cases z
    rcases h with h | h
    · rw [e] at h
      cases h
    · rw [e] at h
      cases h
      exact ⟨hl, k⟩⟩
/-! what the program's questions answer -/
def idxB (m : Int) : V → Bool
  | .int i => decide (0 ≤ i) && decide (i < m)
  | _ => false
def widthB : V → Bool
  | .int i => decide (1 ≤ i) && decide (i ≤ 24)
  | _ => false
def worthsB (H : Hp) : V → Bool
  | .ref a => match H a with
    | some (.tup xs) => !xs.isEmpty && xs.all (idxB 8)
    | _ => false
  | _ => false
def lenB (H : Hp) : V → Nat
  | .ref a => match H a with
    | some (.tup xs) => xs.length
    | some (.lst xs) => xs.length
    | _ => 0
  | _ => 0
def contentB (H : Hp) (x : V) : Bool := worthsB H x && decide (lenB H x ≤ 24)
def addB (m : Int) (n : Nat) : V → Bool
  | .int i => decide (i + (n : Int) ≤ m)
  | _ => false
def stepB (H : Hp) (m : Int) : V → Bool
  | .non => true
  | .ref a => match H a with
    | some (.tup [f, ws]) => idxB m f && worthsB H ws && addB m (lenB H ws) f
    | _ => false
  | _ => false
def stepsB (H : Hp) (m : Int) : V → Bool
  | .ref a => match H a with
    | some (.lst xs) => xs.all (stepB H m)
    | _ => false
  | _ => false
theorem worths_at {H : Hp} {a : Addr} {xs : List V} (h : H a = some (.tup xs)) : worthsB H (.ref a) = (!xs.isEmpty && xs.all (idxB 8)) := by
  unfold worthsB
  simp only [h]
theorem len_at {H : Hp} {a : Addr} {xs : List V} (h : H a = some (.tup xs)) : lenB H (.ref a) = xs.length := by
  unfold lenB
  simp only [h]
theorem worths_not {K : PySem.W.Frag} {H : Hp} {x : V} {n : String} (t : Ty K H x n) (h : n ≠ "tuple") : worthsB H x = false := by
  have z := no_tup t h
  cases x with
  | ref a =>
    cases e : H a with
    | none => simp only [worthsB, e]
    | some o =>
      cases o with
      | tup xs => exact absurd e (z a xs rfl)
      | _ => simp only [worthsB, e]
  | _ => rfl
theorem worths_same {K : PySem.W.Frag} {H H' : Hp} {x : V} {n : String} (t : Ty K H x n) (s : Same H H') : worthsB H' x = worthsB H x := by
  cases x with
  | ref a =>
    obtain ⟨o, ho⟩ := ty_at t
    simp only [worthsB, ho, s _ _ ho]
  | _ => rfl
theorem len_same {K : PySem.W.Frag} {H H' : Hp} {x : V} {n : String} (t : Ty K H x n) (s : Same H H') : lenB H' x = lenB H x := by
  cases x with
  | ref a =>
    obtain ⟨o, ho⟩ := ty_at t
    simp only [lenB, ho, s _ _ ho]
  | _ => rfl
theorem worths_true {H : Hp} {x : V} (h : worthsB H x = true) : ∃ a xs, x = .ref a ∧ H a = some (.tup xs) ∧ xs ≠ [] ∧ xs.all (idxB 8) = true := by
  cases x with
  | ref a =>
    cases e : H a with
    | none => simp only [worthsB, e] at h; cases h
    | some o =>
      cases o with
      | tup xs =>
        rw [worths_at e, Bool.and_eq_true] at h
        refine ⟨a, xs, rfl, e, fun z => ?_, h.2⟩
        rw [z] at h
        exact absurd h.1 (by decide)
      | _ => simp only [worthsB, e] at h; cases h
  | _ => cases h
theorem int_one : ∀ n ∈ tyNames, isB n "int" = true → (!isB n "bool") = decide (n = "int") := by decide +kernel
theorem int_two : ∀ n ∈ tyNames, isB n "int" = false → decide (n = "int") = false := by decide +kernel
theorem tup_not : ∀ n ∈ tyNames, n ≠ "tuple" → isB n "tuple" = false := by decide +kernel
theorem lst_not : ∀ n ∈ tyNames, n ≠ "list" → isB n "list" = false := by decide +kernel
theorem idx_not {m : Int} {x : V} (h : ∀ i, x ≠ .int i) : idxB m x = false := by
  cases x with
  | int i => exact absurd rfl (h i)
  | _ => rfl
theorem width_not {x : V} (h : ∀ i, x ≠ .int i) : widthB x = false := by
  cases x with
  | int i => exact absurd rfl (h i)
  | _ => rfl
theorem ty_is_lst {K : PySem.W.Frag} {H : Hp} {a : Addr} {n : String} {xs : List V} (t : Ty K H (.ref a) n) (e : H a = some (.lst xs)) : n = "list" := by
  obtain ⟨t, m, nf⟩ := t
  cases t with
  | lst z => rfl
  | frz z => exact absurd z (nf _ _ _ rfl)
  | tup z => rw [e] at z; cases z
  | dK z => rw [e] at z; cases z
  | dT z => rw [e] at z; cases z
theorem step_same {K : PySem.W.Frag} {H H' : Hp} {x : V} {m : Int} (th : Th K H 2 x) (s : Same H H') : stepB H' m x = stepB H m x := by
  cases x with
  | ref a =>
    obtain ⟨n, t⟩ := th.ty
    obtain ⟨o, ho⟩ := ty_at t
    have ho' := s _ _ ho
    cases o with
    | tup xs =>
      match xs, ho, ho' with
      | [], ho, ho' => simp only [stepB, ho, ho']
      | [_], ho, ho' => simp only [stepB, ho, ho']
      | [f, ws], ho, ho' =>
        obtain ⟨n2, t2⟩ := ((th.2 a _ rfl (.inl ho)).2 ws (List.mem_cons_of_mem _ List.mem_cons_self)).ty
        simp only [stepB, ho, ho']
        rw [worths_same t2 s, len_same t2 s]
      | _ :: _ :: _ :: _, ho, ho' => simp only [stepB, ho, ho']
    | _ => simp only [stepB, ho, ho']
  | _ => rfl
end Af

set_option Elab.async false
set_option linter.all false
set_option maxRecDepth 100000
namespace Af
open PySem L2
/-! a comprehension over zip, a for over enumerate, lists that stand still -/
theorem lc_zip {K : PySem.W.Frag} {a b : Addr} {xs ys : List V} {g : TG} {tt : TT} {te : TE} {vs : List Nat} {σ : L2.St} {H1 : Hp} {D : Addr} {Qd : Hp → Prop} (hl : xs.length = ys.length) (Pv : Nat → Hp → Prop)
    (h0 : Pv 0 (upd H1 D (.lst [])))
    (hq : ∀ i H, i ≤ xs.length → Pv i H → SqL K H a xs ∧ SqL K H b ys)
    (hs : ∀ (i : Nat) (x y : V) (T : Addr) (H : Hp), xs[i]? = some x → ys[i]? = some y → Pv i H → H T = none → g (.ref T) (wipe σ vs) (upd H T (.tup [x, y])) fun σ2 H2 => wipe σ2 vs = wipe σ vs ∧ tt σ2 H2 fun b H3 =>
      if b = true then te σ2 H3 fun y H4 => ∃ acc, H4 D = some (.lst acc) ∧ acc.length < sizeLine ∧ Pv (i + 1) (upd H4 D (.lst (acc ++ [y]))) else Pv (i + 1) H3)
    (hd : ∀ H, Pv xs.length H → Qd H) :
    ∃ W : Nat → Nat → Hp → Prop, (∃ m, W 0 m (upd H1 D (.lst []))) ∧ ∀ i m H, W i m H →
      ((Itz K a b).stop i H ∧ Qd H) ∨ ((Itz K a b).go i H ∧ ∃ Nx : Hp → Prop, (∀ H', Nx H' → ∃ m', m' < m ∧ W (i + 1) m' H') ∧ ∀ x H', (Itz K a b).yld i H x H' → g x (wipe σ vs) H' fun σ2 H2 => wipe σ2 vs = wipe σ vs ∧ tt σ2 H2 fun b H3 =>
        if b = true then te σ2 H3 fun y H4 => ∃ acc, H4 D = some (.lst acc) ∧ acc.length < sizeLine ∧ Nx (upd H4 D (.lst (acc ++ [y]))) else Nx H3) := by
  refine ⟨fun i m H => m = xs.length - i ∧ i ≤ xs.length ∧ Pv i H, ⟨xs.length, rfl, Nat.zero_le _, h0⟩, fun i m H z => ?_⟩
  obtain ⟨em, hi, p⟩ := z
  subst em
  obtain ⟨q1, q2⟩ := hq i H hi p
  by_cases hlt : i < xs.length
  · have hlt2 : i < ys.length := hl ▸ hlt
    refine .inr ⟨⟨xs, ys, xs[i], ys[i], q1, q2, List.getElem?_eq_getElem hlt, List.getElem?_eq_getElem hlt2⟩, Pv (i + 1), fun H' p' => ⟨xs.length - (i + 1), by omega, rfl, hlt, p'⟩, fun v H' y => ?_⟩
    obtain ⟨T, x, y', e1, hT, e2, hx, hy⟩ := y
    subst e1 e2
    exact hs i x y' T H (hx xs q1) (hy ys q2) p hT
  · have e : i = xs.length := Nat.le_antisymm hi (Nat.le_of_not_lt hlt)
    subst e
    exact .inl ⟨⟨xs, ys, q1, q2, .inl (Nat.le_refl _)⟩, hd H p⟩
theorem for_enum {K : PySem.W.Frag} {a : Addr} {xs : List V} {g : TG} {tb : TS} {D : Ends} {σ : L2.St} {H : Hp} (Pv : Nat → L2.St → Hp → Prop) (h0 : Pv 0 σ H)
    (hq : ∀ i σ H, i ≤ xs.length → Pv i σ H → SqL K H a xs)
    (hs : ∀ (i : Nat) (x : V) (T : Addr) (σ : L2.St) (H : Hp), xs[i]? = some x → Pv i σ H → H T = none → g (.ref T) σ (upd H T (.tup [.int (i : Nat), x])) fun σ2 H2 => tb { D with nx := Pv (i + 1), ct := Pv (i + 1), bk := D.nx } σ2 H2)
    (hd : ∀ σ H, Pv xs.length σ H → D.nx σ H) :
    ∃ W : Nat → Nat → L2.St → Hp → Prop, (∃ m, W 0 m σ H) ∧ ∀ i m σ H, W i m σ H →
      ((Ite K a).stop i H ∧ D.nx σ H) ∨ ((Ite K a).go i H ∧ ∃ N : L2.St → Hp → Prop, (∀ σ' H', N σ' H' → ∃ m', m' < m ∧ W (i + 1) m' σ' H') ∧ ∀ v H', (Ite K a).yld i H v H' → g v σ H' fun σ2 H2 => tb { D with nx := N, ct := N, bk := D.nx } σ2 H2) := by
  refine ⟨fun i m σ H => m = xs.length - i ∧ i ≤ xs.length ∧ Pv i σ H, ⟨xs.length, rfl, Nat.zero_le _, h0⟩, fun i m σ H z => ?_⟩
  obtain ⟨em, hi, p⟩ := z
  subst em
  have q1 := hq i σ H hi p
  by_cases hlt : i < xs.length
  · refine .inr ⟨⟨xs, xs[i], q1, List.getElem?_eq_getElem hlt⟩, Pv (i + 1), fun σ' H' p' => ⟨xs.length - (i + 1), by omega, rfl, hlt, p'⟩, fun v H' y => ?_⟩
    obtain ⟨T, x, e1, hT, e2, hx⟩ := y
    subst e1 e2
    exact hs i x T σ H (hx xs q1) p hT
  · have e : i = xs.length := Nat.le_antisymm hi (Nat.le_of_not_lt hlt)
    subst e
    exact .inl ⟨⟨xs, q1, Nat.le_refl _⟩, hd σ H p⟩
theorem int_at {ns : List Int} {i : Nat} {x : V} (h : (ivs ns)[i]? = some x) : ∃ z, x = .int z := by
  unfold ivs at h
  rw [List.getElem?_map] at h
  cases e : ns[i]? with
  | none =>
    rw [e] at h
    cases h
  | some z =>
    rw [e] at h
    exact ⟨z, (Option.some.inj h).symm⟩
end Af

set_option Elab.async false
set_option linter.all false
set_option maxRecDepth 100000
namespace Af
open PySem PySem.Spec PyProof.Rows L2
/-! steps and plans as data, equal or not -/
def stepD : Stp → PyData
  | none => .none
  | some (f, ws) => .tuple [.int f, .tuple (dvs ws)]
def stepsD : List Stp → List PyData
  | [] => []
  | a :: r => stepD a :: stepsD r
theorem dp_step {K : PySem.W.Frag} {H : Hp} : ∀ {x : V} {st : Stp}, StepV H x st → Dp K H x (stepD st)
  | _, none, h => by
    have e : _ = V.non := h
    subst e
    exact .non
  | _, some (f, ws), h => by
    obtain ⟨a, b, rfl, h1, h2⟩ := h
    exact .tup (SqT.of h1) (.cons (.int f) (.cons (.tup (SqT.of h2) (dp_ints ws)) .nil))
theorem dp_steps {K : PySem.W.Frag} {H : Hp} : ∀ {xs : List V} {sts : List Stp}, Paired (StepV H) xs sts → DpAll K H xs (stepsD sts)
  | _, _, .nil => .nil
  | _, _, .cons h t => .cons (dp_step h) (dp_steps t)
theorem lay_step : ∀ st : Stp, (stepD st).canLay0 = true ∧ (stepD st).depth ≤ 2
  | none => ⟨rfl, by decide⟩
  | some (f, ws) => by
    refine ⟨?_, ?_⟩
    · show (PyData.canLay0 (.int f) && (PyData.canLayAll0 (dvs ws) && true)) = true
      rw [lay_ints]
      rfl
    · show max (PyData.depth (.int f)) (max (PyData.depthAll (dvs ws) + 1) 0) + 1 ≤ 2
      rw [deep_ints]
      show max 0 (max (0 + 1) 0) + 1 ≤ 2
      decide
theorem lay_steps : ∀ sts : List Stp, PyData.canLayAll0 (stepsD sts) = true ∧ PyData.depthAll (stepsD sts) ≤ 2
  | [] => ⟨rfl, by decide⟩
  | a :: r => by
    obtain ⟨h1, h2⟩ := lay_step a
    obtain ⟨h3, h4⟩ := lay_steps r
    refine ⟨?_, ?_⟩
    · show (PyData.canLay0 (stepD a) && PyData.canLayAll0 (stepsD r)) = true
      rw [h1, h3]
      rfl
    · show max (PyData.depth (stepD a)) (PyData.depthAll (stepsD r)) ≤ 2
      omega
theorem sh_ints (ns : List Int) : SeqAt.shaped (.tuple (dvs ns)) = true := by
  show (PyData.canLayAll0 (dvs ns) && decide (PyData.depthAll (dvs ns) + 1 ≤ 64)) = true
  rw [lay_ints, deep_ints]
  rfl
theorem sh_int (n : Int) : SeqAt.shaped (.int n) = true := rfl
theorem sh_steps (sts : List Stp) : SeqAt.shaped (.list (stepsD sts)) = true := by
  obtain ⟨h1, h2⟩ := lay_steps sts
  show (PyData.canLayAll0 (stepsD sts) && decide (PyData.depthAll (stepsD sts) + 1 ≤ 64)) = true
  rw [h1, decide_eq_true (by omega)]
  rfl
def planD (pl : Pl) : PyData := .tuple [.tuple (dvs pl.cs), .int pl.w, .list (stepsD pl.sts)]
theorem sh_plan (pl : Pl) : SeqAt.shaped (planD pl) = true := by
  obtain ⟨h1, h2⟩ := lay_steps pl.sts
  show ((PyData.canLayAll0 (dvs pl.cs) && (true && (PyData.canLayAll0 (stepsD pl.sts) && true))) && decide (max (PyData.depthAll (dvs pl.cs) + 1) (max 0 (max (PyData.depthAll (stepsD pl.sts) + 1) 0)) + 1 ≤ 64)) = true
  rw [h1, lay_ints, deep_ints, decide_eq_true (by omega)]
  rfl
theorem dp_plan {K : PySem.W.Frag} {H : Hp} {p : Addr} {v : V} {pl : Pl} (h : PlanV p H v pl) : Dp K H v (planD pl) := by
  obtain ⟨a, ca, sa, xs, rfl, h1, h2, _, h3, h4⟩ := h.ex
  exact .tup (SqT.of h1) (.cons (.tup (SqT.of h2) (dp_ints _)) (.cons (.int _) (.cons (.lst (SqL.of h3) (dp_steps h4)) .nil)))
/-- what == of two plans is -/
def samePl (a b : Pl) : Bool := PyData.eqv (.tuple (dvs a.cs)) (.tuple (dvs b.cs)) && (PyData.eqv (.int a.w) (.int b.w) && PyData.eqv (.list (stepsD a.sts)) (.list (stepsD b.sts)))
theorem same_planD (a b : Pl) : PyData.eqv (planD a) (planD b) = samePl a b := by
  show (PyData.eqv (.tuple (dvs a.cs)) (.tuple (dvs b.cs)) && (PyData.eqv (.int a.w) (.int b.w) && (PyData.eqv (.list (stepsD a.sts)) (.list (stepsD b.sts)) && true))) = _
  rw [Bool.and_true]
  rfl
mutual
theorem eqv_comm : ∀ a b : PyData, PyData.eqv a b = PyData.eqv b a
  | .none, b => by cases b <;> rfl
  | .bool x, b => by
    cases b with
    | bool y => cases x <;> cases y <;> rfl
    | int j =>
      show ((if x = true then (1 : Int) else 0) == j) = (j == (if x = true then (1 : Int) else 0))
      exact BEq.comm
    | _ => rfl
  | .int x, b => by
    cases b with
    | int y =>
      show (x == y) = (y == x)
      exact BEq.comm
    | bool y =>
      show (x == (if y = true then (1 : Int) else 0)) = ((if y = true then (1 : Int) else 0) == x)
      exact BEq.comm
    | _ => rfl
  | .str x, b => by
    cases b with
    | str y =>
      show (x == y) = (y == x)
      exact BEq.comm
    | _ => rfl
  | .list xs, b => by
    cases b with
    | list ys => exact eqvAll_comm xs ys
    | _ => rfl
  | .tuple xs, b => by
    cases b with
    | tuple ys => exact eqvAll_comm xs ys
    | _ => rfl
  | .dict xs, b => by cases b <;> rfl
theorem eqvAll_comm : ∀ xs ys : List PyData, PyData.eqvAll xs ys = PyData.eqvAll ys xs
  | [], [] => rfl
  | [], _ :: _ => rfl
  | _ :: _, [] => rfl
  | x :: xs, y :: ys => by
    show (PyData.eqv x y && PyData.eqvAll xs ys) = (PyData.eqv y x && PyData.eqvAll ys xs)
    rw [eqv_comm x y, eqvAll_comm xs ys]
end
theorem same_comm (a b : Pl) : samePl a b = samePl b a := by
  rw [← same_planD, ← same_planD]
  exact eqv_comm _ _
theorem same_refl (a : Pl) : samePl a a = true := by
  rw [← same_planD]
  have := sh_plan a
  exact PySem.SeqAt.eqv_refl _ (Bool.and_eq_true_iff.mp this).1
/-! xs.count(None) -/
def rCntN (K : PySem.W.Frag) : V → List V → Hp → VK → Prop := fun x xs H Q => ∃ (p : Addr) (ys : List V) (ds : List PyData), x = .ref p ∧ xs = [.non] ∧ SqL K H p ys ∧ DpAll K H ys ds ∧ PyData.canLayAll0 ds = true ∧ ∀ n : Nat, Q (.int (n : Nat)) H
theorem mt_countN {X : Cx} (hu : X.A.units + 1 < cLine) : MtR X "list.count" (rCntN X.K) := by
  intro pins s σ H x xs v us Q I rx rxs h
  obtain ⟨p, ys, ds, rfl, rfl, hs, hd, hl, q⟩ := h
  cases (show v = Value.ref p from rx)
  obtain ⟨u, rfl, ru⟩ := rxs.one
  cases (show u = Value.none from ru)
  obtain ⟨its, rv, pl, _⟩ := I.list hs
  obtain ⟨as, rs⟩ := Dp.readsAll I ds ys its hd rv
  refine PySem.SeqAt.count_list_data (d := .none) (vs := its.toArray) pl.isList (by simpa using rs) Reads.none (PyData.plainAll_of_canLay0 _ hl) rfl (by show X.A.units + 1 + min _ 0 < cLine; omega) ?_
  exact ⟨.int (ds.countP (fun y => PyData.eqv y .none) : Nat), H, I.tok _, ⟨_, rfl⟩, q _⟩
/-! xs[::-1] -/
theorem pe_up {X : Cx} {e : Expr} {te : TE} (he : PE X e te) : PE X e (fun σ H R => ∃ R0 : VK, te σ H R0 ∧ ∀ x H1, R0 x H1 → R x H1) := ⟨fun pins s σ H R I q => by
  obtain ⟨R0, q1, q2⟩ := q
  refine thn (he.run pins s σ H R0 I q1) fun v s1 z => ?_
  obtain ⟨x, H1, I1, r1, q⟩ := z
  exact ⟨x, H1, I1, r1, q2 _ _ q⟩⟩
theorem pe_rev' {X : Cx} {e : Expr} {te : TE} {k : Nat} {p1 p2 p3 pos : Pos} (he : PE X e te) : PE X (.Subscript e (.Slice none none (some (.UnaryOp .USub (.Constant (.int 1) k p1) p2)) p3) pos) (tRev' te) := by
  have h := pe_revL (p1 := p1) (p2 := p2) (p3 := p3) (pos := pos) (k := k) (pe_up he)
  refine ⟨fun pins s σ H Q I q => h.run pins s σ H Q I ⟨_, q, fun x H1 z => ?_⟩⟩
  obtain ⟨a, xs, e, ha, q⟩ := z
  exact ⟨a, xs, e, SqL.of ha, q.mk⟩
end Af

set_option Elab.async false
set_option linter.all false
set_option maxRecDepth 100000
namespace Af
/-! a write broken into pieces: cell by cell (as the law does it), and by the cuts (as the program does it) -/
def spl (w : Int) : Int → List Int → Int → List Int → List (Int × List Int)
  | st, acc, _, [] => [(st, acc)]
  | st, acc, pos, x :: r => if acc ≠ [] ∧ pos % w = 0 then (st, acc) :: spl w pos [x] (pos + 1) r else spl w st (acc ++ [x]) (pos + 1) r
/-- the cuts among n cells from pos on -/
def cutL (w : Int) : Int → Nat → List Int
  | _, 0 => []
  | pos, n + 1 => if pos % w = 0 then pos :: cutL w (pos + 1) n else cutL w (pos + 1) n
/-- the part from s to e of the worths that begin at the cell f -/
def part (f : Int) (W : List Int) (s e : Int) : List Int := (W.drop (s - f).toNat).take ((e - f).toNat - (s - f).toNat)
def byCuts (f : Int) (W : List Int) : Int → List Int → Int → List (Int × List Int)
  | s, [], e => [(s, part f W s e)]
  | s, c :: cs, e => (s, part f W s c) :: byCuts f W c cs e
theorem zip_cuts (f : Int) (W : List Int) : ∀ (s : Int) (cs : List Int) (e : Int), ((s :: cs).zip (cs ++ [e])).map (fun p => (p.1, part f W p.1 p.2)) = byCuts f W s cs e
  | s, [], e => rfl
  | s, c :: cs, e => by
    show (s, part f W s c) :: ((c :: cs).zip (cs ++ [e])).map (fun p => (p.1, part f W p.1 p.2)) = (s, part f W s c) :: byCuts f W c cs e
    rw [zip_cuts f W c cs e]
theorem part_mid {f : Int} {pre acc r : List Int} {s e : Int} (hs : s = f + (pre.length : Int)) (he : e = s + (acc.length : Int)) : part f (pre ++ (acc ++ r)) s e = acc := by
  have e1 : (s - f).toNat = pre.length := by omega
  have e2 : (e - f).toNat - (s - f).toNat = acc.length := by omega
  unfold part
  rw [e2, e1, List.drop_left, List.take_left]
theorem spl_cuts {w f : Int} : ∀ (r pre acc : List Int) (st pos : Int), acc ≠ [] → st = f + (pre.length : Int) → pos = st + (acc.length : Int) →
    spl w st acc pos r = byCuts f (pre ++ (acc ++ r)) st (cutL w pos r.length) (pos + (r.length : Int))
  | [], pre, acc, st, pos, ne, hs, hp => by
    show [(st, acc)] = [(st, part f (pre ++ (acc ++ [])) st (pos + 0))]
    rw [part_mid hs (by omega)]
  | x :: r, pre, acc, st, pos, ne, hs, hp => by
    have le : (((x :: r).length : Nat) : Int) = (r.length : Int) + 1 := by rw [List.length_cons]; rfl
    by_cases c : pos % w = 0
    · have ih := spl_cuts (w := w) (f := f) r (pre ++ acc) [x] pos (pos + 1) (by simp) (by rw [List.length_append]; omega) (by show pos + 1 = pos + ((1 : Nat) : Int); omega)
      have e : (pre ++ acc) ++ ([x] ++ r) = pre ++ (acc ++ (x :: r)) := by simp
      rw [e] at ih
      show (if acc ≠ [] ∧ pos % w = 0 then (st, acc) :: spl w pos [x] (pos + 1) r else spl w st (acc ++ [x]) (pos + 1) r) = byCuts f (pre ++ (acc ++ (x :: r))) st (if pos % w = 0 then pos :: cutL w (pos + 1) r.length else cutL w (pos + 1) r.length) _
      rw [if_pos ⟨ne, c⟩, if_pos c, ih, le, show pos + ((r.length : Int) + 1) = pos + 1 + (r.length : Int) by omega]
      show _ = (st, part f (pre ++ (acc ++ (x :: r))) st pos) :: _
      rw [part_mid hs hp]
    · have ih := spl_cuts (w := w) r pre (acc ++ [x]) st (pos + 1) (by simp) hs (by rw [List.length_append]; show pos + 1 = st + ((acc.length + 1 : Nat) : Int); omega)
      have e : pre ++ ((acc ++ [x]) ++ r) = pre ++ (acc ++ (x :: r)) := by simp
      rw [e] at ih
      show (if acc ≠ [] ∧ pos % w = 0 then (st, acc) :: spl w pos [x] (pos + 1) r else spl w st (acc ++ [x]) (pos + 1) r) = byCuts f (pre ++ (acc ++ (x :: r))) st (if pos % w = 0 then pos :: cutL w (pos + 1) r.length else cutL w (pos + 1) r.length) _
      rw [if_neg (fun z => c z.2), if_neg c, ih, le, show pos + ((r.length : Int) + 1) = pos + 1 + (r.length : Int) by omega]
/-- both ways lead to the same pieces -/
theorem pieces_same {w f : Int} {ws : List Int} (ne : ws ≠ []) : spl w f [] f ws = byCuts f ws f (cutL w (f + 1) (ws.length - 1)) (f + (ws.length : Int)) := by
  cases ws with
  | nil => exact absurd rfl ne
  | cons x r =>
    have h := spl_cuts (w := w) (f := f) r [] [x] f (f + 1) (by simp) (by show f = f + ((0 : Nat) : Int); omega) (by show f + 1 = f + ((1 : Nat) : Int); omega)
    show (if ([] : List Int) ≠ [] ∧ f % w = 0 then _ else spl w f ([] ++ [x]) (f + 1) r) = _
    rw [if_neg (fun z => z.1 rfl)]
    have e : (((x :: r).length : Nat) : Int) = (r.length : Int) + 1 := by rw [List.length_cons]; rfl
    rw [e, show f + ((r.length : Int) + 1) = f + 1 + (r.length : Int) by omega]
    exact h
end Af

set_option Elab.async false
set_option linter.all false
set_option maxRecDepth 100000
namespace Af
open PySem L2
/-- a drawn plan whose list of steps is neither the pen's nor the one at l -/
structure PlanL (p l : Addr) (H : Hp) (v : V) (pl : Pl) : Prop where
  ex : ∃ a ca sa xs, v = .ref a ∧ H a = some (.tup [.ref ca, .int pl.w, .ref sa]) ∧ H ca = some (.tup (ivs pl.cs)) ∧ sa ≠ p ∧ sa ≠ l ∧ H sa = some (.lst xs) ∧ Paired (StepV H) xs pl.sts
theorem PlanL.v {p l : Addr} {H : Hp} {v : V} {pl : Pl} (h : PlanL p l H v pl) : PlanV p H v pl := by
  obtain ⟨a, ca, sa, xs, e, h1, h2, n, _, h3, h4⟩ := h.ex
  exact ⟨a, ca, sa, xs, e, h1, h2, n, h3, h4⟩
theorem PlanV.toL {p l : Addr} {H H' : Hp} {v : V} {pl : Pl} (h : PlanV p H v pl) (n : H l = none) (s : Same H H') : PlanL p l H' v pl := by
  obtain ⟨a, ca, sa, xs, e, h1, h2, np, h3, h4⟩ := h.ex
  exact ⟨a, ca, sa, xs, e, s _ _ h1, s _ _ h2, np, ne_of_none h3 n, s _ _ h3, steps_same s h4⟩
theorem PlanL.same {p l : Addr} {H H' : Hp} {v : V} {pl : Pl} (h : PlanL p l H v pl) (s : Same H H') : PlanL p l H' v pl := by
  obtain ⟨a, ca, sa, xs, e, h1, h2, np, nl, h3, h4⟩ := h.ex
  exact ⟨a, ca, sa, xs, e, s _ _ h1, s _ _ h2, np, nl, s _ _ h3, steps_same s h4⟩
theorem kp_upd {l : Addr} {H : Hp} {ys zs : List V} (e : H l = some (.lst ys)) : Kp l H (L2.upd H l (.lst zs)) := fun a o n k => by
  by_cases z : a = l
  · rcases n with n | n
    · exact absurd z n
    · rw [z, e] at k
      exact absurd (Option.some.inj k).symm (n ys)
  · rw [upd_ne z]
    exact k
theorem PlanL.upd {p l : Addr} {H : Hp} {v : V} {pl : Pl} {ys zs : List V} (h : PlanL p l H v pl) (e : H l = some (.lst ys)) : PlanL p l (L2.upd H l (.lst zs)) v pl := by
  have k := kp_upd (zs := zs) e
  obtain ⟨a, ca, sa, xs, e, h1, h2, np, nl, h3, h4⟩ := h.ex
  exact ⟨a, ca, sa, xs, e, k.tup h1, k.tup h2, np, nl, k.lst nl h3, steps_kp k h4⟩
/-- a list of plans that the program takes -/
def PlansL (p l : Addr) (H : Hp) (vs : List V) : Prop := ∀ v ∈ vs, ∃ pl, PlanL p l H v pl ∧ Good 40 40 pl
def Plans (p : Addr) (H : Hp) (vs : List V) : Prop := ∀ v ∈ vs, ∃ pl, PlanV p H v pl ∧ Good 40 40 pl
theorem Plans.toL {p l : Addr} {H H' : Hp} {vs : List V} (h : Plans p H vs) (n : H l = none) (s : Same H H') : PlansL p l H' vs := fun v hv => by
  obtain ⟨pl, h1, h2⟩ := h v hv
  exact ⟨pl, h1.toL n s, h2⟩
theorem PlansL.v {p l : Addr} {H : Hp} {vs : List V} (h : PlansL p l H vs) : Plans p H vs := fun v hv => by
  obtain ⟨pl, h1, h2⟩ := h v hv
  exact ⟨pl, h1.v, h2⟩
theorem PlansL.same {p l : Addr} {H H' : Hp} {vs : List V} (h : PlansL p l H vs) (s : Same H H') : PlansL p l H' vs := fun v hv => by
  obtain ⟨pl, h1, h2⟩ := h v hv
  exact ⟨pl, h1.same s, h2⟩
theorem PlansL.upd {p l : Addr} {H : Hp} {vs ys zs : List V} (h : PlansL p l H vs) (e : H l = some (.lst ys)) : PlansL p l (L2.upd H l (.lst zs)) vs := fun v hv => by
  obtain ⟨pl, h1, h2⟩ := h v hv
  exact ⟨pl, h1.upd e, h2⟩
theorem PlansL.app {p l : Addr} {H : Hp} {vs us : List V} (h : PlansL p l H vs) (k : PlansL p l H us) : PlansL p l H (vs ++ us) := fun v hv => by
  rcases List.mem_append.mp hv with hv | hv
  · exact h v hv
  · exact k v hv
theorem PlansL.one {p l : Addr} {H : Hp} {v : V} {pl : Pl} (h : PlanL p l H v pl) (g : Good 40 40 pl) : PlansL p l H [v] := fun u hu => by
  rw [List.mem_singleton.mp hu]
  exact ⟨pl, h, g⟩
theorem Plans.nil {p : Addr} {H : Hp} : Plans p H [] := fun v hv => by simp at hv
theorem Plans.app {p : Addr} {H : Hp} {vs us : List V} (h : Plans p H vs) (k : Plans p H us) : Plans p H (vs ++ us) := fun v hv => by
  rcases List.mem_append.mp hv with hv | hv
  · exact h v hv
  · exact k v hv
theorem Plans.cons {p : Addr} {H : Hp} {v : V} {vs : List V} {pl : Pl} (h : PlanV p H v pl) (g : Good 40 40 pl) (k : Plans p H vs) : Plans p H (v :: vs) := fun u hu => by
  rcases List.mem_cons.mp hu with rfl | hu
  · exact ⟨pl, h, g⟩
  · exact k u hu
theorem Plans.same {p : Addr} {H H' : Hp} {vs : List V} (h : Plans p H vs) (s : Same H H') : Plans p H' vs := fun v hv => by
  obtain ⟨pl, h1, h2⟩ := h v hv
  exact ⟨pl, h1.same s, h2⟩
/-- a plan changed at one place -/
theorem Good.cells {pl : Pl} {cs : List Int} (g : Good 40 40 pl) (c1 : pl.cs.length ≤ cs.length) (c2 : cs.length ≤ 24) (cb : ∀ z ∈ cs, 0 ≤ z ∧ z < 8) : Good 40 40 ⟨cs, pl.w, pl.sts⟩ := by
  refine ⟨Nat.le_trans g.c1 c1, c2, cb, g.w1, g.w24, fun x hx => ?_, g.sl, g.tl⟩
  have o := g.st x hx
  cases x with
  | none => exact True.intro
  | some fw =>
    obtain ⟨f, ws⟩ := fw
    obtain ⟨o1, o2, o3, o4⟩ := o
    exact ⟨o1, o2, by show f + (ws.length : Int) ≤ (cs.length : Int); omega, o4⟩
theorem Good.width {pl : Pl} {w : Int} (g : Good 40 40 pl) (h1 : 1 ≤ w) (h2 : w ≤ 24) : Good 40 40 ⟨pl.cs, w, pl.sts⟩ := ⟨g.c1, g.c24, g.cb, h1, h2, g.st, g.sl, g.tl⟩
theorem Good.steps {s t : Nat} {pl : Pl} {sts : List Stp} (g : Good s t pl) (h : ∀ x ∈ sts, OkS pl.cs.length x) (h1 : sts.length ≤ 40) (h2 : tot sts ≤ 40) : Good 40 40 ⟨pl.cs, pl.w, sts⟩ := ⟨g.c1, g.c24, g.cb, g.w1, g.w24, h, h1, h2⟩
theorem tot_drop_le (l : List Stp) (n : Nat) : tot (l.drop n) ≤ tot l := by
  have := tot_take_drop l n
  omega
/-- one step taken out, another one put in its place -/
theorem steps_at {l : List Stp} {i : Nat} {a b : Stp} {n : Nat} (hi : l[i]? = some a) (hb : stl b = stl a) (ob : OkS n b) (ok : ∀ x ∈ l, OkS n x) :
    (∀ x ∈ (l.take i ++ [b]) ++ l.drop (i + 1), OkS n x) ∧ ((l.take i ++ [b]) ++ l.drop (i + 1)).length = l.length ∧ tot ((l.take i ++ [b]) ++ l.drop (i + 1)) = tot l := by
  have hlt : i < l.length := (List.getElem?_eq_some_iff.mp hi).1
  have e : l.drop i = a :: l.drop (i + 1) := by
    rw [List.drop_eq_getElem_cons hlt]
    congr 1
    rw [List.getElem?_eq_getElem hlt] at hi
    exact Option.some.inj hi
  refine ⟨fun x hx => ?_, ?_, ?_⟩
  · rcases List.mem_append.mp hx with hx | hx
    · rcases List.mem_append.mp hx with hx | hx
      · exact ok x (List.mem_of_mem_take hx)
      · rw [List.mem_singleton.mp hx]
        exact ob
    · exact ok x (List.mem_of_mem_drop hx)
  · rw [List.length_append, List.length_append, List.length_take, List.length_drop]
    show min i l.length + 1 + (l.length - (i + 1)) = l.length
    omega
  · rw [tot_app, tot_app, tot_one, hb]
    have t := tot_take_drop l i
    rw [e, tot_cons] at t
    omega
end Af

set_option Elab.async false
set_option linter.all false
set_option maxRecDepth 100000
namespace Af
open PySem L2
abbrev s_l_split : Stmt := top 46
abbrev N_l_split : List Str := ["_law_index", "_law_step_here", "_law_span_here", "_law_first", "_law_worths_here", "_law_found", "_law_some_here", "_law_k"]
theorem sc_l_split : FnScope N_l_split ["_law_index", "_law_step_here", "_law_span_here"] (defScope s_l_split) := ⟨rfl, rfl, rfl, by decide +kernel, rfl, by decide +kernel, by decide +kernel⟩

abbrev s_l_parts : Stmt := top 47
abbrev N_l_parts : List Str := ["_law_plan_here", "_law_found", "_law_index"]
theorem sc_l_parts : FnScope N_l_parts ["_law_plan_here"] (defScope s_l_parts) := ⟨rfl, rfl, rfl, by decide +kernel, rfl, by decide +kernel, by decide +kernel⟩

abbrev s_l_write : Stmt := top 49
abbrev N_l_write : List Str := ["_law_pen_here", "_law_many", "_law_kinds", "_law_longest_row", "_law_first", "_law_more", "_law_k"]
theorem sc_l_write : FnScope N_l_write ["_law_pen_here", "_law_many", "_law_kinds", "_law_longest_row"] (defScope s_l_write) := ⟨rfl, rfl, rfl, by decide +kernel, rfl, by decide +kernel, by decide +kernel⟩

/-- a piece: the step that it is of, its first cell, its worths -/
def PieceE (H : Hp) (ix : Int) (x : V) (p : Int × List Int) : Prop := ∃ t b, x = .ref t ∧ H t = some (.tup [.int ix, .int p.1, .ref b]) ∧ H b = some (.tup (ivs p.2))
theorem PieceE.kp {q : Addr} {H H' : Hp} {ix : Int} {x : V} {p : Int × List Int} (k : Kp q H H') (h : PieceE H ix x p) : PieceE H' ix x p := by
  obtain ⟨t, b, e, h1, h2⟩ := h
  exact ⟨t, b, e, k.tup h1, k.tup h2⟩
theorem pieces_kp {q : Addr} {H H' : Hp} {ix : Int} {xs : List V} {ps : List (Int × List Int)} (k : Kp q H H') (h : Paired (PieceE H ix) xs ps) : Paired (PieceE H' ix) xs ps := L2.Paired.mapP h fun _ _ z => z.kp k
theorem pieces_st {H H' : Hp} {ix : Int} {xs : List V} {ps : List (Int × List Int)} (k : Same H H') (h : Paired (PieceE H ix) xs ps) : Paired (PieceE H' ix) xs ps := pieces_kp (q := 0) (Kp.same k) h
theorem spl_go {w st pos x : Int} {acc r : List Int} (c : ¬ (acc ≠ [] ∧ pos % w = 0)) : spl w st acc pos (x :: r) = spl w st (acc ++ [x]) (pos + 1) r := by
  show (if acc ≠ [] ∧ pos % w = 0 then _ else _) = _
  rw [if_neg c]
theorem spl_cut {w st pos x : Int} {acc r : List Int} (c : acc ≠ [] ∧ pos % w = 0) : spl w st acc pos (x :: r) = (st, acc) :: spl w pos [x] (pos + 1) r := by
  show (if acc ≠ [] ∧ pos % w = 0 then _ else _) = _
  rw [if_pos c]
def sp_split : Sp := fun vs H Q _ => ∃ (ix f sp : Int) (a b : Addr) (ws : List Int), vs = [.int ix, .ref a, .int sp] ∧ H a = some (.tup [.int f, .ref b]) ∧ H b = some (.tup (ivs ws)) ∧ 0 < sp ∧ ws.length ≤ 1000 ∧
  ∀ l H' xs, Same H H' → H l = none → H' l = some (.lst xs) → Paired (PieceE H' ix) xs (spl sp f [] f ws) → Q (.ref l) H'
section
variable {P : Program} {w : World} {K : PySem.W.Frag} {mg : Str → Option Value} {base : Heap}
theorem ok_split {f : Addr} {fd : FuncData} (F : Fun K "_law_split" "_law_split" s_l_split f fd) (T : Txt mg) : FnOk P w K mg base CX0 1 f fd ["_law_index", "_law_step_here", "_law_span_here"] sp_split := by
  refine F.ok sc_l_split (fun vs H Q E h => ?_) (fun cdv A outer s H vs Q E hr h => ?_)
  · obtain ⟨_, _, _, _, _, _, rfl, _⟩ := h
    rfl
  obtain ⟨ix, f, sp, a, b, ws, rfl, ha, hb, hsp, hws, k⟩ := h
  refine ⟨_, (pss_cons (ps_asg (pv 1) (pg_tup rfl (pgs_cons (pg_name (i := 3) sc_l_split.nd rfl (Or.inl rfl)) (pgs_cons (pg_name (i := 4) sc_l_split.nd rfl (Or.inl rfl)) pgs_nil))))
    (pss_cons (ps_par (i := 5) (j := 6) rfl sc_l_split.nd rfl rfl (by decide) rfl rfl (pa_cons (pe_lst' pa_nil) (pa_cons (pe_lst' pa_nil) pa_nil)) (by rfl))
    (pss_cons (ps_for PassesOwn.never rfl (pi_range1 rfl T.range (pa_cons (pe_callB call_len' (by rfl) T.len (by decide +kernel) (pa_cons (pv 4) pa_nil)) pa_nil)) (pg_name (i := 7) sc_l_split.nd rfl (Or.inl rfl))
      (pss_cons (ps_cut (ps_if (PW.pt (pw_and (pt_cmpR (op_neNil hr.units) (pv 6) (pe_lst' pa_nil) (nomark _)) (pw_and1 (pt_cmpR op_eq (pe_op op_mod (pe_callTy call_int1 (by rfl) T.int (by decide +kernel) (pa_cons (pe_op op_add (pv 3) (pv 7)) pa_nil)) (pv 2)) pe_int (nomark _)))))
      (pss_cons (ps_expr (pe_bm PySem.F.plainAttrs_list PySem.F.slot_list_append PySem.F.type_list_append mt_append (pv 5) (pa_cons (pe_tup' (pa_cons (pv 0) (pa_cons (pe_op op_sub (pe_op op_add (pv 3) (pv 7)) (pe_callB call_len' (by rfl) T.len (by decide +kernel) (pa_cons (pv 6) pa_nil))) (pa_cons (pe_callTy call_tuple' (by rfl) T.tuple (by decide +kernel) (pa_cons (pv 6) pa_nil)) pa_nil)))) pa_nil)))
    (pss_one (ps_set (i := 6) sc_l_split.nd rfl (Or.inl rfl) (pe_lst' pa_nil))))
      pss_nil))
    (pss_one (ps_expr (pe_bm PySem.F.plainAttrs_list PySem.F.slot_list_append PySem.F.type_list_append mt_append (pv 6) (pa_cons (pe_ix ix_seq' (pv 4) (pv 7) (fun _ _ => rfl)) pa_nil))))))
    (pss_one (ps_ret (pe_op op_cat' (pv 5) (pe_lst' (pa_cons (pe_tup' (pa_cons (pv 0) (pa_cons (pe_op op_sub (pe_op op_add (pv 3) (pe_callB call_len' (by rfl) T.len (by decide +kernel) (pa_cons (pv 4) pa_nil))) (pe_callB call_len' (by rfl) T.len (by decide +kernel) (pa_cons (pv 6) pa_nil))) (pa_cons (pe_callTy call_tuple' (by rfl) T.tuple (by decide +kernel) (pa_cons (pv 6) pa_nil)) pa_nil)))) pa_nil)))))))), ?_⟩
  refine ⟨_, rfl, a, _, rfl, SqT.of ha, rfl, _, _, rfl, _, _, rfl, rfl, ?_⟩
  refine ⟨szr, fun fl H1 hfl s1 h1 => ⟨szr, fun sl H2 hsl s2 h2 => ⟨_, _, rfl, ?_⟩⟩⟩
  have b2 := s2 _ _ (s1 _ _ hb)
  refine ⟨_, rfl, b, _, rfl, .inr b2, _, rfl, ?_, ?_, ?_⟩
  · omega
  · rw [ivs_len]
    omega
  refine for_range (lo := 0) (fun i σ' H' => ∃ sl xs ss kv out, σ' = [some (.int ix), some (.ref a), some (.int sp), some (.int f), some (.ref b), some (.ref fl), some (.ref sl), kv] ∧ Same H H' ∧ H sl = none ∧ sl ≠ fl ∧ H' fl = some (.lst xs) ∧ H' sl = some (.lst (ivs ss)) ∧ xs.length ≤ i ∧ ss.length ≤ i ∧
    Paired (PieceE H' ix) xs out ∧ out ++ spl sp (f + (i : Int) - (ss.length : Int)) ss (f + (i : Int)) (ws.drop i) = spl sp f [] f ws) ?_ ?_ ?_
  · refine ⟨sl, [], [], none, [], rfl, s1.trans s2, s1.free hsl, nofree h1 hsl, s2 _ _ h1, h2, Nat.le_refl _, Nat.le_refl _, .nil, ?_⟩
    show spl sp (f + 0 - 0) [] (f + 0) ws = spl sp f [] f ws
    rw [Int.add_zero, Int.sub_zero]
  · rintro i σ' H' hi ⟨sl, xs, ss, kv, out, rfl, s3, hsl, ns, h3, h4, l1, l2, pr, tot⟩
    have hi' : i < ws.length := by
      have e : ((ivs ws).length : Int).toNat = ws.length := by rw [ivs_len]; omega
      omega
    rw [List.drop_eq_getElem_cons hi'] at tot
    have b3 := s3 _ _ hb
    refine ⟨fun σ' H' => ∃ sl xs ss out, σ' = [some (.int ix), some (.ref a), some (.int sp), some (.int f), some (.ref b), some (.ref fl), some (.ref sl), some (.int (0 + (i : Int)))] ∧ Same H H' ∧ H sl = none ∧ sl ≠ fl ∧ H' fl = some (.lst xs) ∧ H' sl = some (.lst (ivs ss)) ∧ xs.length ≤ i + 1 ∧ ss.length ≤ i ∧
      Paired (PieceE H' ix) xs out ∧ out ++ spl sp (f + (i : Int) - (ss.length : Int)) (ss ++ [ws[i]]) (f + (i : Int) + 1) (ws.drop (i + 1)) = spl sp f [] f ws, ?_, ?_⟩
    · refine ⟨_, rfl, szr, fun e H5 he s5 h5 => ?_⟩
      have k3 := s5 _ _ h3
      have k4 := s5 _ _ h4
      have s6 := s3.trans s5
      have no : ¬ (ss ≠ [] ∧ (f + (i : Int)) % sp = 0) → ∃ sl' xs' ss' out', [some (V.int ix), some (.ref a), some (.int sp), some (.int f), some (.ref b), some (.ref fl), some (.ref sl), some (.int (0 + (i : Int)))] = [some (.int ix), some (.ref a), some (.int sp), some (.int f), some (.ref b), some (.ref fl), some (.ref sl'), some (.int (0 + (i : Int)))] ∧ Same H H5 ∧ H sl' = none ∧ sl' ≠ fl ∧ H5 fl = some (.lst xs') ∧ H5 sl' = some (.lst (ivs ss')) ∧ xs'.length ≤ i + 1 ∧ ss'.length ≤ i ∧
          Paired (PieceE H5 ix) xs' out' ∧ out' ++ spl sp (f + (i : Int) - (ss'.length : Int)) (ss' ++ [ws[i]]) (f + (i : Int) + 1) (ws.drop (i + 1)) = spl sp f [] f ws :=
        fun c => ⟨sl, xs, ss, out, rfl, s6, hsl, ns, k3, k4, by omega, l2, pieces_st s5 pr, by rw [← spl_go c]; exact tot⟩
      have e0 : (0 : Int) + (i : Int) = (i : Int) := Int.zero_add _
      refine ⟨sl, e, ss, rfl, rfl, k4, h5, _, rfl, ite2 (fun c1 => ?_) (fun c1 => iteF (no fun z => ?_))⟩
      rotate_left
      · cases ss with
        | nil => exact z.1 rfl
        | cons y ys => exact c1 rfl
      have ne : ss ≠ [] := fun z => by
        rw [z] at c1
        exact absurd c1 (by decide)
      refine ⟨_, rfl, _, rfl, _, _, rfl, rfl, .inl ⟨_, rfl, _, rfl, _, _, rfl, rfl, hsp, rfl, _, rfl, ite2 (fun c2 => ?_) (fun c2 => no fun z => ?_)⟩⟩
      rotate_left
      · exact c2 (decide_eq_true (by show V.int ((f + (0 + (i : Int))) % sp) = V.int 0; rw [e0, z.2]))
      have cut : (f + (i : Int)) % sp = 0 := by
        have z := V.int.inj (of_decide_eq_true c2)
        rw [e0] at z
        exact z
      refine ⟨_, rfl, .inl ⟨rfl, _, SqL.of k3⟩, ?_⟩
      refine ⟨_, rfl, _, rfl, _, rfl, _, _, rfl, rfl, _, rfl, sl, _, rfl, .inl k4, _, _, rfl, rfl, _, rfl, sl, _, rfl, .inl k4, fun tp H7 s7 h7 => ?_⟩
      refine ⟨szr, fun t H8 ht s8 h8 => ?_⟩
      have k5 := s8 _ _ (s7 _ _ k3)
      refine ⟨fl, xs, _, rfl, rfl, k5, szl (by omega), ?_⟩
      have s9 : Same H (upd H8 fl (.lst (xs ++ [V.ref t]))) := same_mut (s6.trans (s7.trans s8)) hfl
      refine ⟨szr, fun nl H9 hnl s10 h10 => ?_⟩
      have kk := kp_upd (zs := xs ++ [V.ref t]) k5
      have pp : Paired (PieceE H9 ix) (xs ++ [V.ref t]) (out ++ [(f + (i : Int) - (ss.length : Int), ss)]) := by
        refine paired_app (pieces_st s10 (pieces_kp kk (pieces_st (s5.trans (s7.trans s8)) pr))) (.cons ⟨t, tp, rfl, ?_, s10 _ _ (kk.tup (s8 _ _ h7))⟩ .nil)
        rw [s10 _ _ (kk.tup h8), e0, ivs_len]
      refine ⟨nl, xs ++ [V.ref t], [], _, rfl, s9.trans s10, s9.free hnl, nofree upd_same hnl, s10 _ _ upd_same, h10, by rw [List.length_append]; show xs.length + 1 ≤ i + 1; omega, Nat.zero_le _, pp, ?_⟩
      rw [spl_cut ⟨ne, cut⟩] at tot
      show (out ++ [(f + (i : Int) - (ss.length : Int), ss)]) ++ spl sp (f + (i : Int) - 0) [ws[i]] (f + (i : Int) + 1) (ws.drop (i + 1)) = _
      rw [Int.sub_zero, List.append_assoc]
      exact tot
    · rintro σ' H' ⟨sl, xs, ss, out, rfl, s3, hsl, ns, h3, h4, l1, l2, pr, tot⟩
      have b3 := s3 _ _ hb
      refine ⟨_, rfl, .inl ⟨rfl, _, SqL.of h4⟩, ?_⟩
      refine ⟨_, rfl, _, rfl, b, _, _, _, rfl, rfl, .inr b3, at_of (Int.zero_add _) (ivs_get hi'), ?_⟩
      refine ⟨sl, ivs ss, _, rfl, rfl, h4, szl (by rw [ivs_len]; omega), ?_⟩
      have kk := kp_upd (zs := ivs ss ++ [V.int ws[i]]) h4
      refine ⟨sl, xs, ss ++ [ws[i]], _, out, rfl, same_mut s3 hsl, hsl, ns, by rw [upd_ne ns.symm]; exact h3, ?_, l1, by rw [List.length_append]; show ss.length + 1 ≤ i + 1; omega, pieces_kp kk pr, ?_⟩
      · rw [upd_same]
        unfold ivs
        rw [List.map_append]
        rfl
      · have e1 : f + ((i + 1 : Nat) : Int) - ((ss ++ [ws[i]]).length : Int) = f + (i : Int) - (ss.length : Int) := by
          rw [List.length_append]
          show f + ((i + 1 : Nat) : Int) - ((ss.length + 1 : Nat) : Int) = _
          omega
        have e2 : f + ((i + 1 : Nat) : Int) = f + (i : Int) + 1 := by omega
        rw [e1, e2]
        exact tot
  · rintro σ' H' ⟨sl, xs, ss, kv, out, rfl, s3, hsl, ns, h3, h4, l1, l2, pr, tot⟩
    have e : ((ivs ws).length : Int).toNat = ws.length := by rw [ivs_len]; omega
    rw [e] at l1 l2 tot
    rw [List.drop_length] at tot
    have b3 := s3 _ _ hb
    refine ⟨_, rfl, _, rfl, _, rfl, _, rfl, b, _, rfl, .inr b3, _, _, rfl, rfl, _, rfl, sl, _, rfl, .inl h4, _, _, rfl, rfl, _, rfl, sl, _, rfl, .inl h4, fun tp H7 s7 h7 => ?_⟩
    refine ⟨szr, fun t H8 ht s8 h8 => ⟨szr, fun nl H9 hnl s9 h9 => ?_⟩⟩
    have s10 := s7.trans (s8.trans s9)
    refine ⟨fl, nl, _, _, rfl, rfl, s10 _ _ h3, h9, sz (by show xs.length + 1 ≤ 100000; omega), fun r H10 hr2 s11 h11 => ?_⟩
    refine k r H10 _ (s3.trans (s10.trans s11)) ((s3.trans s10).free hr2) h11 ?_
    rw [← tot]
    refine paired_app (pieces_st (s10.trans s11) pr) (.cons ⟨t, tp, rfl, ?_, s11 _ _ (s9 _ _ (s8 _ _ h7))⟩ .nil)
    rw [s11 _ _ (s9 _ _ h8), ivs_len, ivs_len]
end
end Af

set_option Elab.async false
set_option linter.all false
set_option maxRecDepth 100000
namespace Af
open PySem L2
theorem cutL_snoc (w : Int) : ∀ (n : Nat) (pos : Int), cutL w pos (n + 1) = cutL w pos n ++ (if (pos + (n : Int)) % w = 0 then [pos + (n : Int)] else [])
  | 0, pos => by
    show (if pos % w = 0 then pos :: cutL w (pos + 1) 0 else cutL w (pos + 1) 0) = [] ++ (if (pos + ((0 : Nat) : Int)) % w = 0 then [pos + ((0 : Nat) : Int)] else [])
    rw [show pos + ((0 : Nat) : Int) = pos by omega]
    rfl
  | n + 1, pos => by
    have ih := cutL_snoc w n (pos + 1)
    have e : pos + 1 + (n : Int) = pos + ((n + 1 : Nat) : Int) := by omega
    rw [e] at ih
    show (if pos % w = 0 then pos :: cutL w (pos + 1) (n + 1) else cutL w (pos + 1) (n + 1)) = (if pos % w = 0 then pos :: cutL w (pos + 1) n else cutL w (pos + 1) n) ++ _
    rw [ih]
    by_cases c : pos % w = 0
    · rw [if_pos c, if_pos c]
      rfl
    · rw [if_neg c, if_neg c]
theorem cutL_in {w : Int} : ∀ {n : Nat} {pos z : Int}, z ∈ cutL w pos n → pos ≤ z ∧ z < pos + (n : Int)
  | 0, pos, z, h => by cases h
  | n + 1, pos, z, h => by
    have k : z = pos ∨ z ∈ cutL w (pos + 1) n := by
      by_cases c : pos % w = 0
      · rw [show cutL w pos (n + 1) = pos :: cutL w (pos + 1) n from if_pos c] at h
        exact List.mem_cons.mp h
      · rw [show cutL w pos (n + 1) = cutL w (pos + 1) n from if_neg c] at h
        exact .inr h
    rcases k with rfl | k
    · omega
    · have := cutL_in k
      omega
theorem cutL_len {w : Int} : ∀ (n : Nat) (pos : Int), (cutL w pos n).length ≤ n
  | 0, _ => Nat.le_refl 0
  | n + 1, pos => by
    have ih := cutL_len (w := w) n (pos + 1)
    by_cases c : pos % w = 0
    · rw [show cutL w pos (n + 1) = pos :: cutL w (pos + 1) n from if_pos c, List.length_cons]
      omega
    · rw [show cutL w pos (n + 1) = cutL w (pos + 1) n from if_neg c]
      omega
/-- the slice of the program is that part -/
theorem slice_part {f s e : Int} {ws : List Int} (h1 : f ≤ s) (h2 : f ≤ e) (h3 : s ≤ f + (ws.length : Int)) (h4 : e ≤ f + (ws.length : Int)) : cutV (ivs ws) (some (s - f)) (some (e - f)) = ivs (part f ws s e) := by
  obtain ⟨a, ha⟩ := Int.eq_ofNat_of_zero_le (show 0 ≤ s - f by omega)
  obtain ⟨b, hb⟩ := Int.eq_ofNat_of_zero_le (show 0 ≤ e - f by omega)
  unfold cutV part
  rw [ha, hb, HT.sIx_nat, HT.sIx_nat, ivs_len, Nat.min_eq_left (by omega), Nat.min_eq_left (by omega)]
  show ((ivs ws).drop a).take (b - a) = ivs ((ws.drop (a : Int).toNat).take ((b : Int).toNat - (a : Int).toNat))
  rw [Int.toNat_natCast, Int.toNat_natCast]
  unfold ivs
  rw [List.map_take, List.map_drop]
end Af

set_option Elab.async false
set_option linter.all false
set_option maxRecDepth 100000
set_option maxHeartbeats 4000000
namespace Af
open PySem L2
abbrev s_broken : Stmt := top 25
abbrev N_broken : List Str := ["width", "index", "write", "first", "worths", "behind", "cuts", "starts", "ends", "cell", "start", "end"]
theorem sc_broken : FnScope N_broken ["width", "index", "write"] (defScope s_broken) := ⟨rfl, rfl, rfl, by decide +kernel, rfl, by decide +kernel, by decide +kernel⟩

theorem paired_take_succ {α β : Type} {F : α → β → Prop} {a : List α} {b : List β} {i : Nat} {y : β} (h : Paired F a (b.take i)) (x : α) (hx : F x y) (hb : b[i]? = some y) : Paired F (a ++ [x]) (b.take (i + 1)) := by
  rw [List.take_add_one, hb]
  exact paired_app h (.cons hx .nil)
def sp_brokenX : Sp := fun vs H Q _ => ∃ (wd ix f : Int) (t b : Addr) (ws : List Int), vs = [.int wd, .int ix, .ref t] ∧ H t = some (.tup [.int f, .ref b]) ∧ H b = some (.tup (ivs ws)) ∧ 0 < wd ∧ 0 ≤ f ∧ f ≤ 1000 ∧ ws ≠ [] ∧ ws.length ≤ 100 ∧
  ∀ l H' xs, Same H H' → H l = none → H' l = some (.lst xs) → Paired (PieceE H' ix) xs (spl wd f [] f ws) → Q (.ref l) H'
section
variable {P : Program} {w : World} {K : PySem.W.Frag} {mg : Str → Option Value} {base : Heap}
theorem ok_brokenX {f : Addr} {fd : FuncData} (F : Fun K "_broken" "_broken" s_broken f fd) (T : Txt mg) : FnOk P w K mg base CX0 1 f fd ["width", "index", "write"] sp_brokenX := by
  refine F.ok sc_broken (fun vs H Q E h => ?_) (fun cdv A outer s H vs Q E hr h => ?_)
  · obtain ⟨_, _, _, _, _, _, rfl, _⟩ := h
    rfl
  obtain ⟨wd, ix, f, t, b, ws, rfl, ht, hb, w0, f0, f1, wn, wl, k⟩ := h
  refine ⟨_, (pss_cons (ps_asg (pv 2) (pg_tup rfl (pgs_cons (pg_name (i := 3) sc_broken.nd rfl (Or.inr rfl)) (pgs_cons (pg_name (i := 4) sc_broken.nd rfl (Or.inr rfl)) pgs_nil))))
    (pss_cons (ps_set (i := 5) sc_broken.nd rfl (Or.inl rfl) (pe_op op_add (pv 3) (pe_callB call_len' (by rfl) T.len (by decide +kernel) (pa_cons (pv 4) pa_nil))))
    (pss_cons (ps_setLc (i := 6) (own := [("cell", 9)]) (g := (gName 9)) rfl sc_broken.nd rfl rfl (sw_true rfl rfl rfl (by decide +kernel)) (pi_range2 rfl T.range (pa_cons (pe_op op_add (pv 3) pe_int) (pa_cons (pv 5) pa_nil))) (blkOk_by (own := [("cell", 9)]) (N := N_broken) (sc := defScope s_broken) (by decide +kernel)) (fun _ _ _ _ _ => pg_name (i := 9) sc_broken.nd rfl (Or.inl rfl)) (fun _ _ _ _ _ => (pts_one (pt_cmpR op_eq (pe_op op_mod (pv 9) (pv 0)) pe_int (nomark _)))) (fun _ _ _ _ _ => (pv 9)))
    (pss_cons (ps_par (i := 7) (j := 8) rfl sc_broken.nd rfl rfl (by decide) rfl rfl (pa_cons (pe_op op_cat' (pe_lst' (pa_cons (pv 3) pa_nil)) (pv 6)) (pa_cons (pe_op op_cat' (pv 6) (pe_lst' (pa_cons (pv 5) pa_nil))) pa_nil)) (by rfl))
    (pss_one (ps_ret (pe_lc (own := [("start", 10), ("end", 11)]) (g := (gTup K 2 (gCons (gName 10) (gCons (gName 11) gNil)))) (tt := tYes) rfl sc_broken.nd (pi_zip rfl T.zip (pa_cons (pv 7) (pa_cons (pv 8) pa_nil))) (blkOk_by (own := [("start", 10), ("end", 11)]) (N := N_broken) (sc := defScope s_broken) (by decide +kernel)) (fun _ _ _ _ _ => pg_tup rfl (pgs_cons (pg_name (i := 10) sc_broken.nd rfl (Or.inl rfl)) (pgs_cons (pg_name (i := 11) sc_broken.nd rfl (Or.inl rfl)) pgs_nil))) (fun _ _ _ _ _ => pts_nil) (fun _ _ _ _ _ => (pe_tup' (pa_cons (pv 1) (pa_cons (pv 10) (pa_cons (pe_slice sl_tup' (pv 4) (po_some (pe_op op_sub (pv 10) (pv 3))) (po_some (pe_op op_sub (pv 11) (pv 3)))) pa_nil)))))))))))), ?_⟩
  refine ⟨_, rfl, t, _, rfl, SqT.of ht, rfl, _, _, rfl, _, _, rfl, rfl, ?_⟩
  refine ⟨_, rfl, _, rfl, b, _, rfl, .inr hb, _, _, rfl, rfl, ?_⟩
  have hln := ivs_len ws
  have hpos : 0 < ws.length := List.length_pos_iff.mpr wn
  refine ⟨_, rfl, _, _, rfl, rfl, _, rfl, f + 1, f + ((ivs ws).length : Int), rfl, ⟨by omega, by omega, by omega, by omega⟩, fun D hD => lc_range (lo := f + 1) (n := (f + ((ivs ws).length : Int) - (f + 1)).toNat) (fun i H' => Same H H' ∧ H' D = some (.lst (ivs (cutL wd (f + 1) i)))) ?_ ?_ ?_⟩
  · exact ⟨same_new hD, upd_same⟩
  · rintro i H' hi ⟨s1, h1⟩
    have sn := cutL_snoc wd i (f + 1)
    have cl := cutL_len (w := wd) i (f + 1)
    refine ⟨rfl, _, rfl, _, rfl, _, _, rfl, rfl, w0, rfl, _, rfl, ite2 (fun y => ?_) (fun y => ⟨s1, ?_⟩)⟩
    · have y' : (f + 1 + (i : Int)) % wd = 0 := V.int.inj (of_decide_eq_true y)
      rw [if_pos y'] at sn
      refine ⟨_, rfl, _, h1, szl (by rw [ivs_len]; omega), same_mut s1 hD, ?_⟩
      rw [upd_same, sn]
      unfold ivs
      rw [List.map_append]
      rfl
    · have y' : ¬ (f + 1 + (i : Int)) % wd = 0 := fun z => y (decide_eq_true (congrArg V.int z))
      rw [if_neg y', List.append_nil] at sn
      rw [sn]
      exact h1
  · rintro H1 ⟨s1, h1⟩
    have en : (f + ((ivs ws).length : Int) - (f + 1)).toNat = ws.length - 1 := by rw [hln]; omega
    rw [en] at h1
    have cin : ∀ z ∈ cutL wd (f + 1) (ws.length - 1), f ≤ z ∧ z ≤ f + (ws.length : Int) := fun z hz => by
      have := cutL_in hz
      omega
    have cl := cutL_len (w := wd) (ws.length - 1) (f + 1)
    have fin := pieces_same (w := wd) (f := f) wn
    rw [← zip_cuts] at fin
    generalize cutL wd (f + 1) (ws.length - 1) = cs at h1 cin cl fin
    refine ⟨_, rfl, szr, fun l2 H2 hl2 s2 h2 => ⟨_, rfl, l2, D, _, _, rfl, rfl, h2, s2 _ _ h1, sz (by show 1 + (ivs cs).length ≤ 100000; rw [ivs_len]; omega), fun sl H3 hsl s3 h3 => ?_⟩⟩
    refine ⟨_, rfl, _, rfl, szr, fun l4 H4 hl4 s4 h4 => ⟨D, l4, _, _, rfl, rfl, s4 _ _ (s3 _ _ (s2 _ _ h1)), h4, sz (by show (ivs cs).length + 1 ≤ 100000; rw [ivs_len]; omega), fun el H5 hel s5 h5 => ⟨_, _, rfl, ?_⟩⟩⟩
    have S := s1.trans (s2.trans (s3.trans (s4.trans s5)))
    have hs5 : H5 sl = some (.lst (ivs (f :: cs))) := s5 _ _ (s4 _ _ h3)
    have he5 : H5 el = some (.lst (ivs (cs ++ [f + (ws.length : Int)]))) := by
      rw [h5, hln]
      unfold ivs
      rw [List.map_append]
      rfl
    have hll : (ivs (f :: cs)).length = (ivs (cs ++ [f + (ws.length : Int)])).length := by
      rw [ivs_len, ivs_len, List.length_append]
      rfl
    refine ⟨_, rfl, _, rfl, sl, el, _, _, rfl, SqL.of hs5, SqL.of he5, fun R hR => lc_zip hll (fun i H' => Same H5 H' ∧ ∃ xs, H' R = some (.lst xs) ∧ xs.length = i ∧ Paired (PieceE H' ix) xs ((((f :: cs).zip (cs ++ [f + (ws.length : Int)])).map (fun p => (p.1, part f ws p.1 p.2))).take i)) ?_ ?_ ?_ ?_⟩
    · exact ⟨same_new hR, [], upd_same, rfl, .nil⟩
    · rintro i H' hi ⟨s6, _⟩
      exact ⟨SqL.of (s6 _ _ hs5), SqL.of (s6 _ _ he5)⟩
    · rintro i x y T' H' hx hy ⟨s6, xs, h6, l6, p6⟩ hT
      have hi : i < (ivs (f :: cs)).length := (List.getElem?_eq_some_iff.mp hx).1
      have hc : (ivs (f :: cs)).length = cs.length + 1 := by rw [ivs_len]; rfl
      have i1 : i < (f :: cs).length := by rw [List.length_cons]; omega
      have i2 : i < (cs ++ [f + (ws.length : Int)]).length := by rw [List.length_append]; show i < cs.length + 1; omega
      rw [ivs_get i1] at hx
      rw [ivs_get i2] at hy
      cases hx
      cases hy
      have m1 : (f :: cs)[i] ∈ f :: cs := List.getElem_mem i1
      have m2 : (cs ++ [f + (ws.length : Int)])[i] ∈ cs ++ [f + (ws.length : Int)] := List.getElem_mem i2
      have zg : (((f :: cs).zip (cs ++ [f + (ws.length : Int)])).map (fun p => (p.1, part f ws p.1 p.2)))[i]? = some ((f :: cs)[i], part f ws (f :: cs)[i] (cs ++ [f + (ws.length : Int)])[i]) := by
        have zz : ((f :: cs).zip (cs ++ [f + (ws.length : Int)]))[i]? = some ((f :: cs)[i], (cs ++ [f + (ws.length : Int)])[i]) := List.getElem?_zip_eq_some.mpr ⟨List.getElem?_eq_getElem i1, List.getElem?_eq_getElem i2⟩
        rw [List.getElem?_map, zz]
        rfl
      generalize (f :: cs)[i] = zx at m1 zg
      generalize (cs ++ [f + (ws.length : Int)])[i] = zy at m2 zg
      have b1 : f ≤ zx ∧ zx ≤ f + (ws.length : Int) := by
        rcases List.mem_cons.mp m1 with rfl | m
        · omega
        · exact cin zx m
      have b2 : f ≤ zy ∧ zy ≤ f + (ws.length : Int) := by
        rcases List.mem_append.mp m2 with m | m
        · exact cin zy m
        · rw [List.mem_singleton.mp m]
          omega
      have s7 : Same H' (upd H' T' (.tup [.int zx, .int zy])) := same_new hT
      have b7 := s7 _ _ (s6 _ _ (S _ _ hb))
      refine ⟨T', _, rfl, SqT.of upd_same, rfl, _, _, rfl, _, _, rfl, rfl, rfl, ?_⟩
      refine ⟨_, rfl, _, rfl, _, rfl, _, rfl, _, rfl, _, _, rfl, rfl, _, rfl, _, rfl, _, rfl, _, _, rfl, rfl, _, rfl, b, _, rfl, b7, fun u H8 s8 h8 => ⟨szr, fun r H9 hr9 s9 h9 => ?_⟩⟩
      have s10 := s7.trans (s8.trans s9)
      have u9 := s9 _ _ h8
      rw [slice_part b1.1 b2.1 b1.2 b2.2] at u9
      have r10 := s10 _ _ h6
      refine ⟨xs, r10, szl (by omega), same_mut (s6.trans s10) hR, _, upd_same, by rw [List.length_append, l6]; rfl, ?_⟩
      have kk := kp_upd (zs := xs ++ [V.ref r]) r10
      exact paired_take_succ (pieces_kp kk (pieces_st s10 p6)) (V.ref r) ⟨r, u, rfl, kk.tup h9, kk.tup u9⟩ zg
    · rintro H' ⟨s6, xs, h6, l6, p6⟩
      refine k R H' xs (S.trans s6) (S.free hR) h6 ?_
      rw [fin]
      have ll : (((f :: cs).zip (cs ++ [f + (ws.length : Int)])).map (fun p => (p.1, part f ws p.1 p.2))).length = (ivs (f :: cs)).length := by
        rw [List.length_map, List.length_zip, List.length_append, ivs_len, List.length_cons]
        show min (cs.length + 1) (cs.length + 1) = cs.length + 1
        omega
      rw [← ll, List.take_length] at p6
      exact p6
end
end Af

set_option Elab.async false
set_option linter.all false
set_option maxRecDepth 100000
set_option maxHeartbeats 4000000
namespace Af
open PySem L2
abbrev s_pieces_of : Stmt := top 24
abbrev N_pieces_of : List Str := ["width", "steps", "pieces", "index", "step"]
theorem sc_pieces_of : FnScope N_pieces_of ["width", "steps"] (defScope s_pieces_of) := ⟨rfl, rfl, rfl, by decide +kernel, rfl, by decide +kernel, by decide +kernel⟩

abbrev s_epochs_of : Stmt := top 26
abbrev N_epochs_of : List Str := ["steps", "epochs", "barriers", "step"]
theorem sc_epochs_of : FnScope N_epochs_of ["steps"] (defScope s_epochs_of) := ⟨rfl, rfl, rfl, by decide +kernel, rfl, by decide +kernel, by decide +kernel⟩

/-- the pieces of one step, of all steps, each with its step's index -/
def oneP (w : Int) (i : Nat) : Stp → List (Int × (Int × List Int))
  | none => []
  | some (f, ws) => (spl w f [] f ws).map fun p => ((i : Int), p)
def allP (w : Int) : Nat → List Stp → List (Int × (Int × List Int))
  | _, [] => []
  | i, s :: r => oneP w i s ++ allP w (i + 1) r
theorem allP_snoc (w : Int) (s : Stp) : ∀ (l : List Stp) (i : Nat), allP w i (l ++ [s]) = allP w i l ++ oneP w (i + l.length) s
  | [], i => by
    show oneP w i s ++ [] = [] ++ oneP w i s
    rw [List.append_nil, List.nil_append]
  | a :: l, i => by
    show oneP w i a ++ allP w (i + 1) (l ++ [s]) = (oneP w i a ++ allP w (i + 1) l) ++ oneP w (i + (l.length + 1)) s
    rw [allP_snoc w s l (i + 1), List.append_assoc, show i + 1 + l.length = i + (l.length + 1) by omega]
theorem allP_take {w : Int} {l : List Stp} {i : Nat} {s : Stp} (h : l[i]? = some s) : allP w 0 (l.take (i + 1)) = allP w 0 (l.take i) ++ oneP w i s := by
  have hi : i < l.length := (List.getElem?_eq_some_iff.mp h).1
  rw [List.take_add_one, h]
  show allP w 0 (l.take i ++ [s]) = _
  rw [allP_snoc, List.length_take, Nat.zero_add, Nat.min_eq_left (Nat.le_of_lt hi)]
def PieceA (H : Hp) (x : V) (p : Int × (Int × List Int)) : Prop := PieceE H p.1 x p.2
theorem pieceA_kp {q : Addr} {H H' : Hp} {xs : List V} {ps : List (Int × (Int × List Int))} (k : Kp q H H') (h : Paired (PieceA H) xs ps) : Paired (PieceA H') xs ps := L2.Paired.mapP h fun _ _ z => PieceE.kp k z
theorem pieceA_st {H H' : Hp} {xs : List V} {ps : List (Int × (Int × List Int))} (k : Same H H') (h : Paired (PieceA H) xs ps) : Paired (PieceA H') xs ps := pieceA_kp (q := 0) (Kp.same k) h
theorem pieceA_of {H : Hp} {ix : Int} : ∀ {xs : List V} {ps : List (Int × List Int)}, Paired (PieceE H ix) xs ps → Paired (PieceA H) xs (ps.map fun p => (ix, p))
  | _, _, .nil => .nil
  | _, _, .cons h t => .cons h (pieceA_of t)
theorem spl_len {w : Int} : ∀ (r acc : List Int) (st pos : Int), (spl w st acc pos r).length ≤ r.length + 1
  | [], _, _, _ => Nat.le_refl _
  | x :: r, acc, st, pos => by
    by_cases c : acc ≠ [] ∧ pos % w = 0
    · rw [spl_cut c, List.length_cons, List.length_cons]
      have := spl_len (w := w) r [x] pos (pos + 1)
      omega
    · rw [spl_go c, List.length_cons]
      have := spl_len (w := w) r (acc ++ [x]) st (pos + 1)
      omega
def sp_partsX : Sp := fun vs H Q _ => ∃ (a ca sa : Addr) (sp : Int) (xs : List V) (sts : List Stp), vs = [.ref a] ∧ H a = some (.tup [.ref ca, .int sp, .ref sa]) ∧ H sa = some (.lst xs) ∧ Paired (StepV H) xs sts ∧ 0 < sp ∧ xs.length ≤ 100 ∧
  (∀ f ws, some (f, ws) ∈ sts → ws.length ≤ 100) ∧ ∀ l H' ys, Same H H' → H l = none → H' l = some (.lst ys) → Paired (PieceA H') ys (allP sp 0 sts) → Q (.ref l) H'
def sp_piecesX : Sp := fun vs H Q _ => ∃ (wd : Int) (a : Addr) (xs : List V) (sts : List Stp), vs = [.int wd, .ref a] ∧ H a = some (.lst xs) ∧ Paired (StepV H) xs sts ∧ 0 < wd ∧ xs.length ≤ 100 ∧ (∀ x ∈ sts, OkS 24 x) ∧
  ∀ l H' ys, Same H H' → H l = none → H' l = some (.lst ys) → Paired (PieceA H') ys (allP wd 0 sts) → Q (.ref l) H'
section
variable {P : Program} {w : World} {K : PySem.W.Frag} {mg : Str → Option Value} {base : Heap}
theorem ok_partsX {f : Addr} {fd : FuncData} (F : Fun K "_law_parts" "_law_parts" s_l_parts f fd) (T : Txt mg) (c_l_split : Cal P w K mg base 1 "_law_split" ["_law_index", "_law_step_here", "_law_span_here"] sp_split) : FnOk P w K mg base CX0 2 f fd ["_law_plan_here"] sp_partsX := by
  refine F.ok sc_l_parts (fun vs H Q E h => ?_) (fun cdv A outer s H vs Q E hr h => ?_)
  · obtain ⟨_, _, _, _, _, _, rfl, _⟩ := h
    rfl
  obtain ⟨a, ca, sa, sp, xs, sts, rfl, ha, hsa, hst, hsp, hxl, hw, k⟩ := h
  refine ⟨_, (pss_cons (ps_set (i := 1) sc_l_parts.nd rfl (Or.inl rfl) (pe_lst' pa_nil))
    (pss_cons (ps_for PassesOwn.never rfl (pi_range1 rfl T.range (pa_cons (pe_callB call_len' (by rfl) T.len (by decide +kernel) (pa_cons (pe_ix ix_seq' (pv 0) pe_int (fun _ _ => rfl)) pa_nil)) pa_nil)) (pg_name (i := 2) sc_l_parts.nd rfl (Or.inl rfl))
      (pss_one (ps_if (pt_cmpR op_notN (pe_ix ix_seq' (pe_ix ix_seq' (pv 0) pe_int (fun _ _ => rfl)) (pv 2) (fun _ _ => rfl)) pe_non (nomark _))
      (pss_one (ps_set (i := 1) sc_l_parts.nd rfl (Or.inl rfl) (pe_op op_cat' (pv 1) (pe_cal c_l_split hr (pa_cons (pv 2) (pa_cons (pe_ix ix_seq' (pe_ix ix_seq' (pv 0) pe_int (fun _ _ => rfl)) (pv 2) (fun _ _ => rfl)) (pa_cons (pe_ix ix_seq' (pv 0) pe_int (fun _ _ => rfl)) pa_nil)))))))
      pss_nil)))
    (pss_one (ps_ret (pv 1))))), ?_⟩
  have hlen := paired_len hst
  refine ⟨szr, fun fl H1 hfl s1 h1 => ?_⟩
  refine ⟨_, rfl, a, _, _, _, rfl, rfl, .inr (s1 _ _ ha), rfl, sa, _, rfl, .inl (s1 _ _ hsa), _, rfl, ?_, ?_, ?_⟩
  · omega
  · omega
  refine for_range (lo := 0) (fun i σ' H' => ∃ fl ys kv, σ' = [some (.ref a), some (.ref fl), kv] ∧ Same H H' ∧ H fl = none ∧ H' fl = some (.lst ys) ∧ ys.length ≤ i * 101 ∧ Paired (PieceA H') ys (allP sp 0 (sts.take i))) ?_ ?_ ?_
  · exact ⟨fl, [], none, rfl, s1, hfl, h1, Nat.zero_le _, .nil⟩
  · rintro i σ' H' hi ⟨fl, ys, kv, rfl, s2, hfl, h2, l1, p2⟩
    have hi' : i < xs.length := by omega
    have hx2 : xs[i]? = some xs[i] := List.getElem?_eq_getElem hi'
    obtain ⟨st, hs1, hs2⟩ := paired_get hst hx2
    have tk := allP_take (w := sp) hs1
    refine ⟨_, rfl, a, _, _, _, rfl, rfl, .inr (s2 _ _ ha), rfl, _, rfl, sa, _, _, _, rfl, rfl, .inl (s2 _ _ hsa), at_of (Int.zero_add _) hx2, rfl, _, rfl, ?_⟩
    cases st with
    | none =>
      have e : xs[i] = V.non := hs2
      rw [e]
      exact ⟨fl, ys, _, rfl, s2, hfl, h2, by omega, by rw [tk]; show Paired _ ys (_ ++ []); rw [List.append_nil]; exact p2⟩
    | some fw =>
      obtain ⟨f, ws⟩ := fw
      obtain ⟨t, b, e, h3, h4⟩ := hs2
      rw [e]
      have hws := hw f ws (List.mem_of_getElem? hs1)
      refine ⟨_, rfl, _, rfl, _, rfl, a, _, _, _, rfl, rfl, .inr (s2 _ _ ha), rfl, _, rfl, sa, _, _, _, rfl, rfl, .inl (s2 _ _ hsa), at_of (Int.zero_add _) (hx2.trans (congrArg some e)), ?_⟩
      refine ⟨_, rfl, a, _, _, _, rfl, rfl, .inr (s2 _ _ ha), rfl, _, f, sp, t, b, ws, rfl, s2 _ _ h3, s2 _ _ h4, hsp, by omega, fun l H3 zs s3 hl h5 p5 => ?_⟩
      have zl : zs.length ≤ 101 := by
        rw [paired_len p5]
        have := spl_len (w := sp) ws [] f f
        omega
      refine ⟨fl, l, _, _, rfl, rfl, s3 _ _ h2, h5, sz (by omega), fun r H4 hr4 s4 h7 => ?_⟩
      rw [Int.zero_add] at p5
      refine ⟨r, ys ++ zs, _, rfl, s2.trans (s3.trans s4), s2.free (s3.free hr4), h7, by rw [List.length_append]; omega, ?_⟩
      rw [tk]
      exact paired_app (pieceA_st (s3.trans s4) p2) (pieceA_st s4 (pieceA_of p5))
  · rintro σ' H' ⟨fl, ys, kv, rfl, s2, hfl, h2, l1, p2⟩
    have e : (xs.length : Int).toNat = sts.length := by rw [← hlen]; exact Int.toNat_natCast _
    first
      | rw [e, List.take_length] at p2
      | rw [hlen, List.take_length] at p2
    exact ⟨_, rfl, k fl H' ys s2 hfl h2 p2⟩
theorem ok_piecesX {f : Addr} {fd : FuncData} (F : Fun K "_pieces_of" "_pieces_of" s_pieces_of f fd) (T : Txt mg) (c_broken : Cal P w K mg base 1 "_broken" ["width", "index", "write"] sp_brokenX) : FnOk P w K mg base CX0 2 f fd ["width", "steps"] sp_piecesX := by
  refine F.ok sc_pieces_of (fun vs H Q E h => ?_) (fun cdv A outer s H vs Q E hr h => ?_)
  · obtain ⟨_, _, _, _, rfl, _⟩ := h
    rfl
  obtain ⟨wd, a, xs, sts, rfl, ha, hst, w0, xl, ok, k⟩ := h
  refine ⟨_, (pss_cons (ps_set (i := 2) sc_pieces_of.nd rfl (Or.inl rfl) (pe_lst' pa_nil))
    (pss_cons (ps_for PassesOwn.never rfl (pi_enum rfl T.enumerate (pa_cons (pv 1) pa_nil)) (pg_tup rfl (pgs_cons (pg_name (i := 3) sc_pieces_of.nd rfl (Or.inl rfl)) (pgs_cons (pg_name (i := 4) sc_pieces_of.nd rfl (Or.inl rfl)) pgs_nil)))
      (pss_one (ps_if (pt_cmpR op_notN (pv 4) pe_non (nomark _))
      (pss_one (ps_expr (pe_bm PySem.F.plainAttrs_list PySem.F.slot_list_extend PySem.F.type_list_extend mt_extend (pv 2) (pa_cons (pe_cal c_broken hr (pa_cons (pv 0) (pa_cons (pv 3) (pa_cons (pv 4) pa_nil)))) pa_nil))))
      pss_nil)))
    (pss_one (ps_ret (pv 2))))), ?_⟩
  refine ⟨szr, fun pl H1 hpl s1 h1 => ?_⟩
  have hlen := paired_len hst
  refine ⟨_, rfl, a, xs, rfl, SqL.of (s1 _ _ ha), for_enum (K := K) (a := a) (xs := xs) (fun i σ' H' => ∃ ys v1 v2, σ' = [some (.int wd), some (.ref a), some (.ref pl), v1, v2] ∧ Same H H' ∧ H' pl = some (.lst ys) ∧ ys.length ≤ i * 25 ∧ Paired (PieceA H') ys (allP wd 0 (sts.take i))) ?_ ?_ ?_ ?_⟩
  · exact ⟨[], none, none, rfl, s1, h1, Nat.zero_le _, .nil⟩
  · rintro i σ' H' hi ⟨ys, v1, v2, rfl, s2, _⟩
    exact SqL.of (s2 _ _ ha)
  · rintro i x T' σ' H' hx ⟨ys, v1, v2, rfl, s2, h2, l2, p2⟩ hT
    have hi : i < xs.length := (List.getElem?_eq_some_iff.mp hx).1
    obtain ⟨st, hs1, hs2⟩ := paired_get hst hx
    have s3 : Same H' (upd H' T' (.tup [.int (i : Nat), x])) := same_new hT
    have tk := allP_take (w := wd) hs1
    refine ⟨T', _, rfl, SqT.of upd_same, rfl, _, _, rfl, _, _, rfl, rfl, ?_⟩
    cases st with
    | none =>
      have e : x = .non := hs2
      subst e
      exact ⟨_, rfl, rfl, _, rfl, ys, _, _, rfl, s2.trans s3, s3 _ _ h2, by omega, by rw [tk]; show Paired _ ys (_ ++ []); rw [List.append_nil]; exact pieceA_st s3 p2⟩
    | some fw =>
      obtain ⟨f, ws⟩ := fw
      obtain ⟨t, b, e, h3, h4⟩ := hs2
      subst e
      obtain ⟨o1, o2, o3, o4⟩ := ok _ (List.mem_of_getElem? hs1)
      have s4 := s2.trans s3
      refine ⟨_, rfl, rfl, _, rfl, ?_⟩
      refine ⟨_, rfl, .inl ⟨rfl, _, SqL.of (s3 _ _ h2)⟩, ?_⟩
      refine ⟨_, rfl, _, rfl, _, rfl, wd, (i : Int), f, t, b, ws, rfl, s4 _ _ h3, s4 _ _ h4, w0, o1, by omega, o2, by omega, fun l H5 zs s5 hl h5 p5 => ?_⟩
      have h6 := s5 _ _ (s3 _ _ h2)
      have zl : zs.length ≤ 25 := by
        rw [paired_len p5]
        have := spl_len (w := wd) ws [] f f
        omega
      refine ⟨pl, l, ys, zs, rfl, rfl, h6, h5, sz (by omega), ?_⟩
      have kk := kp_upd (zs := ys ++ zs) h6
      refine ⟨ys ++ zs, _, _, rfl, same_mut (s4.trans s5) hpl, upd_same, by rw [List.length_append]; omega, ?_⟩
      rw [tk]
      exact paired_app (pieceA_kp kk (pieceA_st (s3.trans s5) p2)) (pieceA_kp kk (pieceA_of p5))
  · rintro σ' H' ⟨ys, v1, v2, rfl, s2, h2, l2, p2⟩
    rw [hlen, List.take_length] at p2
    exact ⟨_, rfl, k pl H' ys s2 hpl h2 p2⟩
end
end Af

set_option Elab.async false
set_option linter.all false
set_option maxRecDepth 100000
namespace Af
open PySem PySem.Spec PyProof.Rows L2
/-! a def that runs where no repr is under way (repr asks it), and repr itself -/
section
variable {P : Program} {w : World} {K : PySem.W.Frag} {mg : Str → Option Value} {base : Heap}
structure FnG (P : Program) (w : World) (K : PySem.W.Frag) (mg : Str → Option Value) (base : Heap) (k : Nat) (f : Addr) (fd : FuncData) (ps : List Str) (sp : Sp) : Prop where
  many : ∀ (xs : List V) (G : Hp) (R : VK) (E : XK), sp xs G R E → xs.length = ps.length
  goes : ∀ (A : Around) (out : List Env) (s : Shared) (G : Hp) (ar : Args) (us : List Value) (xs : List V) (R : VK) (E : XK), Room k A → A.guards = some [] → Env0 P w K mg base A out s G → BindsTo s fd ar (ps.zip us) → Vals xs us → sp xs G R E →
    codeAny (model P w) A (.call (.ref f) ar) (CR CX0 out P w G s R E) s
theorem okG {x qual : Str} {st : Stmt} {f : Addr} {fd : FuncData} {N ps : List Str} {k : Nat} {sp : Sp} (F : Fun K x qual st f fd) (S : FnScope N ps (defScope st)) (many : ∀ (xs : List V) (G : Hp) (R : VK) (E : XK), sp xs G R E → xs.length = ps.length)
    (body : ∀ (cv : Value) (A : Around) (out : List Env) (s : Shared) (G : Hp) (xs : List V) (R : VK) (E : XK), Room k (A.deeper (envOfC qual (defScope st) s.heap.objs.size f cv)) → A.guards = some [] → sp xs G R E →
      ∃ t, PSs (cxOf CX0 P w K mg base N qual (defScope st) f cv A out s G E).nox (defBody st) t ∧ t { nx := fun _ G' => R .non G', rt := R } (L2.start N xs) G) : FnG P w K mg base (k + 1) f fd ps sp := by
  obtain ⟨oc, od, kV, doc, pm, an, cv, ct, osl, rfl, lk, code⟩ := F.ex
  refine ⟨many, fun A out s G ar us xs R E room grd env bind vals hs => ?_⟩
  have nl := many _ _ _ _ hs
  have KI : K.In s.heap := env.mod.kin.keeps fun b o e => (env.bs b o e).1
  have NL : s.heap.NoLimit := env.mod.nolimit.keeps fun b o e => (env.bs b o e).1
  have kinds : ∀ y ∈ ps.zip us, (defScope st).names.lookup y.1 = some .local ∨ ((defScope st).names.lookup y.1 = some .cell ∧ ((cellsFrom (s.heap.objs.size + 1) (defScope st).names []).lookup y.1).isSome = true) := by
    rintro ⟨n, v⟩ hy
    rcases S.par n (List.of_mem_zip hy).1 with q | q
    · exact .inl q
    · exact .inr ⟨q, PySem.W.cellsFrom_some _ _ _ (.inl q)⟩
  refine codeAny_call_function room.depth (KI _ _ lk) rfl S.co S.gen rfl (PySem.W.codeRec_of KI code) (bind _ _ _ _ (wpAny_newFunctionEnv_cells S.kind kinds fun en he s1 z => ?_))
  subst he
  refine ⟨NL.keeps z.toInCall.keep, codeAny_func ?_⟩
  obtain ⟨t, ht, hq⟩ := body cv A out s G xs R E (room.deeper _) grd hs
  have I := inv_start (CX := CX0) (E := E) (N := N) (cd := cv) (f := f) (qual := qual) S room.hd env nl vals z
  refine wpAny_mono (ht.nox.run [] s1 (L2.start N xs) G _ I hq) (fun fl s' hz => ?_) fun e s' hz => hz
  have last : ∀ {σ : L2.St} {G' : Hp} {v : V} {u : Value}, Inv (cxOf CX0 P w K mg base N qual (defScope st) f cv A out s G E) [] σ G' s' → RelV v u → R v G' → CE out P w G s R u s' := fun {σ G' v u} J rv q => ⟨v, G', J.os, J.bare, J.base, J.hok, rv, q⟩
  match fl, hz with
  | .ret u, ⟨v, σ, G', J, rv, q⟩ => exact last J rv q
  | .next, ⟨σ, G', J, q⟩ => exact last (v := V.non) (u := Value.none) J rfl q
  | .brk, ⟨_, _, _, q⟩ => exact q.elim
  | .cont, ⟨_, _, _, q⟩ => exact q.elim
/-- the law, called behind the top -/
theorem callG {P : Program} {w : World} {K : PySem.W.Frag} {mg mb : Str → Option Value} {k : Nat} {fa a : Addr} {fd : FuncData} {x : Str} {sp : Sp} {s : Shared} {us : List Value} {ns : List Int} (KI : K.In s.heap) (hns : s.heap.Ns mainGlobals mg) (hb : s.heap.Ns builtinsNs mb)
    (hbb : ∀ n : Str, n ≠ "__name__" → mb n = bootBuiltins n) (NL : s.heap.NoLimit) (gn : s.gens = #[]) (ha : s.heap.get? a = some { cls := .type "list", data := .seq us.toArray }) (hi : IntsAre us ns) (short : ns.length ≤ sizeLine) (room : Room k callerA)
    (F : ∀ base : Heap, K.In base → base.Ns mainGlobals mg → FnG P w K mg base k fa fd [x] sp) (bind : ∀ (s : Shared) (u : Value), BindsTo s fd ⟨[u], []⟩ [(x, u)])
    (hs : ∀ G : Hp, Only G → SqL K G a (ns.map V.int) → sp [.ref a] G (fun v _ => v = .bl true) fun _ _ _ => False) :
    codeAny (model P w) callerA (.call (.ref fa) ⟨[.ref a], []⟩) (fun r s' => r = .ok (.ret (.bool true)) ∧ OldK s.heap s'.heap ∧ s'.os = s.os ∧ AllBare s'.gens) s := by
  have vals := vals_ints hi
  have many := hi.length
  have main : ∀ G : Hp, Only G → SqL K G a (ns.map V.int) → HOk P w G s.heap → (∀ b, G b ≠ none → b = a) → (G a ≠ none → K.lookup a = none) →
      codeAny (model P w) callerA (.call (.ref fa) ⟨[.ref a], []⟩) (fun r s' => r = .ok (.ret (.bool true)) ∧ OldK s.heap s'.heap ∧ s'.os = s.os ∧ AllBare s'.gens) s := by
    intro G hO hS ok one free
    have keep : ∀ {b : Addr} {o : Obj}, s.heap.get? b = some o → G b = none → (hidT s.heap G).get? b = some o := fun z n => hidT_get z n
    have dicts : ∀ {b : Addr} {o : Obj} {es : Array DictEntry} {ep : Nat}, s.heap.get? b = some o → o.data = .dict es ep → G b = none := by
      intro b o es ep z dz
      cases q : G b with
      | none => rfl
      | some u =>
        have y := one b (by rw [q]; simp)
        subst y
        rw [ha] at z
        cases z
        have dz' : Data.seq us.toArray _ = Data.dict es ep := dz
        cases dz'
    have spaces : ∀ {b : Addr} {m : Str → Option Value}, s.heap.Ns b m → (hidT s.heap G).Ns b m := by
      rintro b m ⟨o, es, ep, z, dz, r⟩
      exact ⟨o, es, ep, keep z (dicts z dz), dz, r⟩
    have KB : K.In (hidT s.heap G) := by
      intro b o z
      refine keep (KI b o z) ?_
      cases q : G b with
      | none => rfl
      | some u =>
        have y := one b (by rw [q]; simp)
        subst y
        rw [free (by rw [q]; simp)] at z
        cases z
    have env : Env0 P w K mg (hidT s.heap G) callerA [] s G := by
      refine ⟨rfl, ⟨KB, spaces hns, ⟨mb, spaces hb, hbb⟩, ?_⟩, fun b o z => of_hidT z, Nat.le_of_eq (hidT_size _ _), trivial, fun b z => absurd (show b ∈ ([] : List Addr) from z) (by simp), ok, .of_eq gn⟩
      obtain ⟨mc, y1, y2⟩ := NL
      exact ⟨mc, spaces y1, y2⟩
    refine codeAny_mono ((F _ KB (spaces hns)).goes callerA [] s G ⟨[.ref a], []⟩ [.ref a] [.ref a] _ _ room rfl env (bind s (.ref a)) (.cons rfl .nil) (hs G hO hS)) fun r s' z => ?_
    match r, z with
    | .ok (.ret u), z =>
      obtain ⟨v, G', hos, bare, un, ok', rv, q⟩ := z
      have q' : v = .bl true := q
      subst q'
      obtain rfl : u = Value.bool true := rv
      refine ⟨rfl, OldK.of_keep fun b o y => ?_, hos, bare⟩
      cases q : G b with
      | none => exact un.keep b o y q (by intro m; exact absurd (show b ∈ ([] : List Addr) from m) (by simp)) (by simp)
      | some u =>
        rcases hO b with z | ⟨ob, xs, z⟩
        · rw [q] at z
          cases z
        · obtain ⟨y1, _⟩ := ok b _ z
          obtain ⟨y2, _⟩ := ok' b _ (un.frzs b ob _ z)
          rw [y] at y1
          cases y1
          exact y2
    | .error e, z => exact (show False from z).elim
    | .ok .next, z => exact (show False from z).elim
    | .ok .brk, z => exact (show False from z).elim
    | .ok .cont, z => exact (show False from z).elim
  cases hk : K.lookup a with
  | some o =>
    have z := KI a o hk
    rw [ha] at z
    cases z
    exact main (fun _ => none) (fun _ => .inl rfl) (.inr ⟨_, us.toArray, _, hk, rfl, rfl, rfl, by rw [List.size_toArray, many]; exact short, by simpa using vals⟩) (fun b u y => by cases (show (none : Option HO) = some u from y)) (fun b y => absurd rfl y) fun y => absurd rfl y
  | none =>
    have at_ : ∀ {b : Addr} {u : HO}, (if b = a then some (HO.frz { cls := .type "list", data := .seq us.toArray } (.lst (ns.map V.int))) else none) = some u → b = a ∧ u = .frz { cls := .type "list", data := .seq us.toArray } (.lst (ns.map V.int)) := by
      intro b u y
      by_cases q : b = a
      · rw [if_pos q] at y
        exact ⟨q, (Option.some.inj y).symm⟩
      · rw [if_neg q] at y
        cases y
    refine main (fun b => if b = a then some (.frz { cls := .type "list", data := .seq us.toArray } (.lst (ns.map V.int))) else none) (fun b => ?_) (.inl (.inr ⟨{ cls := .type "list", data := .seq us.toArray }, if_pos rfl⟩)) (fun b u y => ?_) (fun b y => ?_) fun _ => hk
    · by_cases q : b = a
      · exact .inr ⟨_, _, if_pos q⟩
      · exact .inl (if_neg q)
    · obtain ⟨rfl, rfl⟩ := at_ y
      exact ⟨ha, by rw [List.length_map]; exact short, us, _, vals, ha⟩
    · by_cases q : b = a
      · exact q
      · exact absurd (if_neg q) y
theorem walkG {l : PySem.W.OpenLaw} {n k : Nat} {q : Program} {loose : List Str} {XP : (Str → Option Value) → Heap → Prop} {YP : World → Heap → Prop} {d : DefRec} {K : Params → PySem.W.Frag} {sp : World → Sp} {x : Str} (hn : l.most = some n) (small : n ≤ sizeLine) (hd : d.params.defaults = []) (room : Room k callerA)
    (hY : ∀ (w : World) (h : Heap), YP w h → (K w.params).In h)
    (F : ∀ (w : World) (mg : Str → Option Value) (fa : Addr) (h : Heap), (K w.params).In h → h.Ns mainGlobals mg → mg d.name = some (.ref fa) →
      ∃ fd : FuncData, (∀ (s : Shared) (u : Value), BindsTo s fd ⟨[u], []⟩ [(x, u)]) ∧ ∀ base : Heap, (K w.params).In base → base.Ns mainGlobals mg → FnG l.prog w (K w.params) mg base k fa fd [x] (sp w))
    (hs : ∀ (w : World) (G : Hp) (a : Addr) (ns : List Int), ns.length ≤ n → Only G → SqL (K w.params) G a (ns.map V.int) → sp w [.ref a] G (fun v _ => v = .bl true) fun _ _ _ => False) :
    PySem.W.WalkO q loose XP YP l.row.toRowW d [] (fun f vs => PySem.call f vs) := by
  refine Att.attach_call hn hd fun w s₀ s₁ mg mb fa o pm cd doc a us ns G Y ho hq hcd hmg hobj hints hlen hg => ?_
  have KI := hY w _ Y
  obtain ⟨fd, hb, hF⟩ := F w mg fa _ KI G.T.g hmg
  exact callG KI G.T.g G.T.b G.T.builtins G.T.nolimit hg hobj hints (Nat.le_trans hlen small) room hF hb fun H hO hS => hs w H a ns hlen hO hS
end
end Af

set_option Elab.async false
set_option linter.all false
set_option maxRecDepth 100000
namespace Af
open PySem PySem.Spec PyProof.Rows L2
/-! data with empty dicts within, and its repr -/
mutual
inductive Dq (K : PySem.W.Frag) (H : Hp) : V → PyData → Prop
  | non : Dq K H .non .none
  | bl (b : Bool) : Dq K H (.bl b) (.bool b)
  | int (i : Int) : Dq K H (.int i) (.int i)
  | str (x : Str) : Dq K H (.str x) (.str x)
  | lst {a : Addr} {xs : List V} {ds : List PyData} : H a = some (.lst xs) → DqAll K H xs ds → Dq K H (.ref a) (.list ds)
  | tup {a : Addr} {xs : List V} {ds : List PyData} : H a = some (.tup xs) → DqAll K H xs ds → Dq K H (.ref a) (.tuple ds)
  | dic {a : Addr} : H a = some (.dK []) → Dq K H (.ref a) (.dict [])
inductive DqAll (K : PySem.W.Frag) (H : Hp) : List V → List PyData → Prop
  | nil : DqAll K H [] []
  | cons {v : V} {vs : List V} {d : PyData} {ds : List PyData} : Dq K H v d → DqAll K H vs ds → DqAll K H (v :: vs) (d :: ds)
end
section
variable {X : Cx} {pins : List (Addr × Obj)} {σ : L2.St} {H : Hp} {s : Shared}
mutual
/-- such data is read, and shown whatever calls are under way -/
theorem Dq.sees (I : Inv X pins σ H s) : ∀ (d : PyData) (v : V) (u : Value), Dq X.K H v d → RelV v u → d.showable = true → d.shown.length ≤ sizeLine →
    ∃ as bs, Reads s.heap u d as ∧ ReadAtMost s.heap d.depth bs ∧ ReprK X.prog X.w bs s.heap d.depth u d.shown
  | .none, _, _, h, r, sh, sz => by
    cases h
    cases r
    obtain ⟨bs, h1, h2⟩ := ReprK.of_reads (prog := X.prog) (w := X.w) (h₀ := s.heap) Reads.none sh (fun z => by cases z) sz
    exact ⟨_, bs, Reads.none, h1, h2⟩
  | .bool b, _, _, h, r, sh, sz => by
    cases h
    cases r
    obtain ⟨bs, h1, h2⟩ := ReprK.of_reads (prog := X.prog) (w := X.w) (h₀ := s.heap) (Reads.bool b) sh (fun z => by cases z) sz
    exact ⟨_, bs, Reads.bool b, h1, h2⟩
  | .int i, _, _, h, r, sh, sz => by
    cases h
    obtain ⟨t, rfl⟩ := r
    obtain ⟨bs, h1, h2⟩ := ReprK.of_reads (prog := X.prog) (w := X.w) (h₀ := s.heap) (Reads.int i t) sh (fun z => by cases z) sz
    exact ⟨_, bs, Reads.int i t, h1, h2⟩
  | .str x, _, _, h, r, sh, sz => by
    cases h
    obtain ⟨t, rfl⟩ := r
    obtain ⟨bs, h1, h2⟩ := ReprK.of_reads (prog := X.prog) (w := X.w) (h₀ := s.heap) (Reads.str x t) sh (fun z => by cases z) sz
    exact ⟨_, bs, Reads.str x t, h1, h2⟩
  | .list ds, _, _, h, r, sh, sz => by
    cases h with
    | @lst a xs _ hs ha =>
      cases r
      obtain ⟨its, rv, ⟨o, n, ho, hc, _, hd⟩, _⟩ := I.list (SqL.of hs)
      have sz' : (listText (PyData.shownAll ds)).length ≤ sizeLine := by simpa only [PyData.shown] using sz
      obtain ⟨as, bs, hr, hb, hk⟩ := Dq.seesAll I ds _ its ha rv (by simpa [PyData.showable] using sh) fun t ht => Nat.le_trans (listText_mem_le ht) sz'
      have rd : Reads s.heap (.ref a) (.list ds) _ := .list ho hc hd hr
      have new : a ∉ bs := not_mem_of_deeper rd (by simp only [PyData.depth]; omega) hb
      refine ⟨_, a :: bs, rd, ReadAtMost.cons rd (by simp only [PyData.depth]; omega) hb, ?_⟩
      simp only [PyData.depth, PyData.shown]
      cases its with
      | nil =>
        cases hr
        simp only [PyData.shownAll, listText_nil]
        exact ReprK.listEmpty ho hc hd
      | cons x l => exact ReprK.list ho hc hd new (by simpa using hk.length_eq) fun i y e => hk.item i y (by simpa using e)
  | .tuple ds, _, _, h, r, sh, sz => by
    cases h with
    | @tup a xs _ hs ha =>
      cases r
      obtain ⟨its, rv, ⟨o, ho, hc, n, hd⟩, _⟩ := I.tuple (SqT.of hs)
      have sz' : (tupleText (PyData.shownAll ds)).length ≤ sizeLine := by simpa only [PyData.shown] using sz
      obtain ⟨as, bs, hr, hb, hk⟩ := Dq.seesAll I ds _ its ha rv (by simpa [PyData.showable] using sh) fun t ht => Nat.le_trans (tupleText_mem_le ht) sz'
      have rd : Reads s.heap (.ref a) (.tuple ds) _ := .tuple ho hc hd hr
      have new : a ∉ bs := not_mem_of_deeper rd (by simp only [PyData.depth]; omega) hb
      refine ⟨_, a :: bs, rd, ReadAtMost.cons rd (by simp only [PyData.depth]; omega) hb, ?_⟩
      simp only [PyData.depth, PyData.shown]
      exact ReprK.tuple ho hc hd new hk
  | .dict kvs, _, _, h, r, sh, sz => by
    cases h with
    | @dic a ha =>
      cases r
      obtain ⟨_, hne, vs, rv, o, es, ep, h1, h2, h3, _, h4, _⟩ := dk_of I.hok ha
      cases rv
      have e : es.toList = [] := by
        cases q : es.toList with
        | nil => rfl
        | cons y l =>
          rw [q] at h4
          cases h4
      have rd : Reads s.heap (.ref a) (.dict []) ([a] ++ []) := Reads.dict (kvs := []) (as := []) (bs := []) h1 h2.1 h3 (by rw [e]; exact .nil) (by rw [e]; exact .nil)
      obtain ⟨bs, h5, h6⟩ := ReprK.of_reads (prog := X.prog) (w := X.w) (h₀ := s.heap) rd sh (fun _ z => by
        have z' : sysModules ∈ [a] := z
        rw [← List.mem_singleton.mp z'] at hne
        exact absurd hne (by simp)) sz
      exact ⟨_, bs, rd, h5, h6⟩
theorem Dq.seesAll (I : Inv X pins σ H s) : ∀ (ds : List PyData) (vs : List V) (us : List Value), DqAll X.K H vs ds → Vals vs us → PyData.showableAll ds = true → (∀ t ∈ PyData.shownAll ds, t.length ≤ sizeLine) →
    ∃ as bs, ReadsAll s.heap us ds as ∧ ReadAtMost s.heap (PyData.depthAll ds) bs ∧ ReprAllK X.prog X.w bs s.heap (PyData.depthAll ds) us (PyData.shownAll ds)
  | [], _, _, h, r, _, _ => by
    cases h
    cases r
    refine ⟨_, [], ReadsAll.nil, ⟨fun b z => (by simp at z), ?_⟩⟩
    simp only [PyData.shownAll]
    exact .nil
  | d :: ds, _, _, h, r, sh, sz => by
    cases h with
    | cons h1 h2 =>
      cases r with
      | cons r1 r2 =>
        have sh' : d.showable = true ∧ PyData.showableAll ds = true := by simpa [PyData.showableAll] using sh
        obtain ⟨a1, b1, q1, m1, k1⟩ := Dq.sees I d _ _ h1 r1 sh'.1 (sz _ (by simp only [PyData.shownAll]; exact List.mem_cons_self))
        obtain ⟨a2, b2, q2, m2, k2⟩ := Dq.seesAll I ds _ _ h2 r2 sh'.2 fun t ht => sz t (by simp only [PyData.shownAll]; exact List.mem_cons_of_mem _ ht)
        refine ⟨_, b1 ++ b2, ReadsAll.cons q1 q2, fun b hb => ?_, ?_⟩
        · simp only [PyData.depthAll]
          rcases List.mem_append.mp hb with hb | hb
          · obtain ⟨d', a', r', y⟩ := m1 b hb
            exact ⟨d', a', r', by omega⟩
          · obtain ⟨d', a', r', y⟩ := m2 b hb
            exact ⟨d', a', r', by omega⟩
        · simp only [PyData.depthAll, PyData.shownAll]
          refine .cons ((k1.more fun b hb => List.mem_append.mpr (.inl hb)).level_le (by omega)) (k2.more_le (fun b hb => List.mem_append.mpr (.inr hb)) (by omega))
end
def rRepr (K : PySem.W.Frag) : List V → Hp → VK → Prop := fun xs H Q => ∃ (a : Addr) (vs : List V) (ds : List PyData), xs = [.ref a] ∧ H a = some (.tup vs) ∧ DqAll K H vs ds ∧ PyData.showableAll ds = true ∧ PyData.depthAll ds ≤ 60 ∧ (PyData.tuple ds).shown.length ≤ sizeLine ∧ Q (.str (PyData.tuple ds).shown) H
/-- repr of a tuple of data -/
theorem call_repr' (hg : X.A.guards = some []) (hu : X.A.units + 64 < cLine) : CallR X (.builtin "repr") (rRepr X.K) := by
  intro pins s σ H xs us Q I r h
  obtain ⟨a, vs, ds, rfl, hs, hd, sh, dp, sz, q⟩ := h
  obtain ⟨u, rfl, ru⟩ := vals1 r
  cases (show u = Value.ref a from ru)
  obtain ⟨its, rv, ⟨o, ho, hc, n, hdd⟩, _⟩ := I.tuple (SqT.of hs)
  have sz' : (tupleText (PyData.shownAll ds)).length ≤ sizeLine := by simpa only [PyData.shown] using sz
  obtain ⟨as, bs, hr, hb, hk⟩ := Dq.seesAll I ds vs its hd rv sh fun t ht => Nat.le_trans (tupleText_mem_le ht) sz'
  have rd : Reads s.heap (.ref a) (.tuple ds) _ := .tuple ho hc hdd hr
  have new : a ∉ bs := not_mem_of_deeper rd (by simp only [PyData.depth]; omega) hb
  refine call_repr_slot (T := "tuple") (by omega) ⟨o, ho, hc⟩ PySem.F.slot_tuple_repr (call_tuple_reprK ho hc hdd new hk hg (fun b _ => Clear.nil b) (by show X.A.units + 1 + (PyData.depthAll ds + 1) < cLine; omega) (fun _ _ e => e) (fun h' u tk keep => ?_) sz')
  refine ⟨_, _, rfl, .str (PyData.tuple ds).shown, H, I.kept keep, ⟨u, ?_⟩, q⟩
  simp only [PyData.shown]
end
end Af

set_option Elab.async false
set_option linter.all false
set_option maxRecDepth 100000
namespace Af
open PySem PySem.Spec PyProof.Rows L2
/-! what the program's questions answer, told of data -/
def idxD (m : Int) : PyData → Bool
  | .int i => decide (0 ≤ i) && decide (i < m)
  | _ => false
def widthD : PyData → Bool
  | .int i => decide (1 ≤ i) && decide (i ≤ 24)
  | _ => false
def worthsD : PyData → Bool
  | .tuple ds => !ds.isEmpty && ds.all (idxD 8)
  | _ => false
def lenD : PyData → Nat
  | .tuple ds => ds.length
  | .list ds => ds.length
  | _ => 0
def contentD (d : PyData) : Bool := worthsD d && decide (lenD d ≤ 24)
def addD (m : Int) (n : Nat) : PyData → Bool
  | .int i => decide (i + (n : Int) ≤ m)
  | _ => false
def stepQ (m : Int) : PyData → Bool
  | .none => true
  | .tuple [f, ws] => idxD m f && worthsD ws && addD m (lenD ws) f
  | _ => false
def stepsQ (m : Int) : PyData → Bool
  | .list ds => ds.all (stepQ m)
  | _ => false
section
variable {K : PySem.W.Frag} {H : Hp}
theorem DqAll.len : ∀ {xs : List V} {ds : List PyData}, DqAll K H xs ds → xs.length = ds.length
  | _, _, .nil => rfl
  | _, _, .cons _ t => by
    rw [List.length_cons, List.length_cons, t.len]
theorem dq_idx {x : V} {d : PyData} (h : Dq K H x d) (m : Int) : idxB m x = idxD m d := by
  cases h <;> rfl
theorem dq_width {x : V} {d : PyData} (h : Dq K H x d) : widthB x = widthD d := by
  cases h <;> rfl
theorem dq_add {x : V} {d : PyData} (h : Dq K H x d) (m : Int) (n : Nat) : addB m n x = addD m n d := by
  cases h <;> rfl
theorem dq_all {m : Int} : ∀ {xs : List V} {ds : List PyData}, DqAll K H xs ds → xs.all (idxB m) = ds.all (idxD m)
  | _, _, .nil => rfl
  | _, _, .cons h t => by
    rw [List.all_cons, List.all_cons, dq_all t, dq_idx h]
theorem dq_empty {xs : List V} {ds : List PyData} (h : DqAll K H xs ds) : xs.isEmpty = ds.isEmpty := by
  cases h <;> rfl
theorem dq_len {x : V} {d : PyData} (h : Dq K H x d) : lenB H x = lenD d := by
  cases h with
  | lst e t => simp only [lenB, e, lenD]; exact t.len
  | tup e t => simp only [lenB, e, lenD]; exact t.len
  | dic e => simp only [lenB, e, lenD]
  | _ => rfl
theorem dq_worths {x : V} {d : PyData} (h : Dq K H x d) : worthsB H x = worthsD d := by
  cases h with
  | lst e t => simp only [worthsB, e, worthsD]
  | tup e t => simp only [worthsB, e, worthsD]; rw [dq_empty t, dq_all t]
  | dic e => simp only [worthsB, e, worthsD]
  | _ => rfl
theorem dq_content {x : V} {d : PyData} (h : Dq K H x d) : contentB H x = contentD d := by
  unfold contentB contentD
  rw [dq_worths h, dq_len h]
theorem dq_step {x : V} {d : PyData} (h : Dq K H x d) (m : Int) : stepB H m x = stepQ m d := by
  cases h with
  | non => rfl
  | lst e t => simp only [stepB, e, stepQ]
  | dic e => simp only [stepB, e, stepQ]
  | tup e t =>
    cases t with
    | nil => simp only [stepB, e, stepQ]
    | cons h1 t =>
      cases t with
      | nil => simp only [stepB, e, stepQ]
      | cons h2 t =>
        cases t with
        | nil =>
          simp only [stepB, e, stepQ]
          rw [dq_idx h1, dq_worths h2, dq_len h2, dq_add h1]
        | cons h3 t => simp only [stepB, e, stepQ]
  | _ => rfl
theorem dq_stepAll {m : Int} : ∀ {xs : List V} {ds : List PyData}, DqAll K H xs ds → xs.all (stepB H m) = ds.all (stepQ m)
  | _, _, .nil => rfl
  | _, _, .cons h t => by
    rw [List.all_cons, List.all_cons, dq_stepAll t, dq_step h]
theorem dq_steps {x : V} {d : PyData} (h : Dq K H x d) (m : Int) : stepsB H m x = stepsQ m d := by
  cases h with
  | lst e t => simp only [stepsB, e, stepsQ]; exact dq_stepAll t
  | tup e t => simp only [stepsB, e, stepsQ]
  | dic e => simp only [stepsB, e, stepsQ]
  | _ => rfl
theorem dq_ty {x : V} {d : PyData} (h : Dq K H x d) : ∃ n, Ty K H x n := by
  cases h with
  | non => exact ⟨_, .non, by decide, fun _ _ _ e => by cases e⟩
  | bl b => exact ⟨_, .bl b, by decide, fun _ _ _ e => by cases e⟩
  | int i => exact ⟨_, .int i, by decide, fun _ _ _ e => by cases e⟩
  | str z => exact ⟨_, .str z, by decide, fun _ _ _ e => by cases e⟩
  | lst e t => exact ⟨_, .lst e, by decide, fun b o u z q => by cases z; rw [e] at q; cases q⟩
  | tup e t => exact ⟨_, .tup e, by decide, fun b o u z q => by cases z; rw [e] at q; cases q⟩
  | dic e => exact ⟨_, .dK e, by decide, fun b o u z q => by cases z; rw [e] at q; cases q⟩
theorem DqAll.mem : ∀ {xs : List V} {ds : List PyData} {y : V}, DqAll K H xs ds → y ∈ xs → ∃ d, d ∈ ds ∧ Dq K H y d
  | _, _, _, .nil, h => by simp at h
  | _, _, y, .cons r t, h => by
    rcases List.mem_cons.mp h with rfl | h
    · exact ⟨_, List.mem_cons_self, r⟩
    · obtain ⟨d, h1, h2⟩ := t.mem h
      exact ⟨d, List.mem_cons_of_mem _ h1, h2⟩
mutual
theorem Dq.same {H' : Hp} (s : Same H H') : ∀ (d : PyData) (x : V), Dq K H x d → Dq K H' x d
  | .none, _, h => by cases h; exact .non
  | .bool _, _, h => by cases h; exact .bl _
  | .int _, _, h => by cases h; exact .int _
  | .str _, _, h => by cases h; exact .str _
  | .list ds, _, h => by
    cases h with
    | lst e t => exact .lst (s _ _ e) (DqAll.same s ds _ t)
  | .tuple ds, _, h => by
    cases h with
    | tup e t => exact .tup (s _ _ e) (DqAll.same s ds _ t)
  | .dict _, _, h => by
    cases h with
    | dic e => exact .dic (s _ _ e)
theorem DqAll.same {H' : Hp} (s : Same H H') : ∀ (ds : List PyData) (xs : List V), DqAll K H xs ds → DqAll K H' xs ds
  | [], _, h => by cases h; exact .nil
  | d :: ds, _, h => by
    cases h with
    | cons h1 h2 => exact .cons (Dq.same s d _ h1) (DqAll.same s ds _ h2)
end
/-! small data: to a depth, lists and tuples of at most 45 parts, short texts -/
def flatD : PyData → Bool
  | .none | .bool _ => true
  | .int i => decide (i.natAbs.log2 < 1920) && decide ((toString i : Str).length ≤ 45)
  | .str x => decide ((reprText x).length ≤ 45)
  | .dict kvs => kvs.isEmpty
  | _ => false
def Sm : Nat → PyData → Prop
  | 0, d => flatD d = true
  | n + 1, d => flatD d = true ∨ ∃ ds, (d = .list ds ∨ d = .tuple ds) ∧ ds.length ≤ 45 ∧ ∀ y ∈ ds, Sm n y
theorem Sm.mono {d : PyData} : ∀ {n : Nat}, Sm n d → Sm (n + 1) d
  | 0, h => .inl h
  | n + 1, h => by
    rcases h with h | ⟨ds, h1, h2, h3⟩
    · exact .inl h
    · exact .inr ⟨ds, h1, h2, fun y hy => (h3 y hy).mono⟩
theorem dq_th : ∀ {n : Nat} {x : V} {d : PyData}, Dq K H x d → Sm n d → Th K H n x
  | 0, _, _, h, _ => dq_ty h
  | n + 1, x, d, h, sm => by
    refine ⟨dq_ty h, fun a xs e z => ?_⟩
    subst e
    have key : ∀ ds, DqAll K H xs ds → (d = .list ds ∨ d = .tuple ds) → xs.length ≤ 100000 ∧ ∀ y ∈ xs, Th K H n y := fun ds t q => by
      rcases sm with f | ⟨es, h1, h2, h3⟩
      · rcases q with rfl | rfl <;> cases f
      · have e : es = ds := by
          rcases q with rfl | rfl <;> rcases h1 with h1 | h1 <;> cases h1 <;> rfl
        subst e
        refine ⟨by rw [t.len]; omega, fun y hy => ?_⟩
        obtain ⟨d', m1, m2⟩ := t.mem hy
        exact dq_th m2 (h3 d' m1)
    cases h with
    | lst e t =>
      rcases z with z | z
      · rw [e] at z; cases z
      · rw [e] at z; cases z; exact key _ t (.inl rfl)
    | tup e t =>
      rcases z with z | z
      · rw [e] at z; cases z; exact key _ t (.inr rfl)
      · rw [e] at z; cases z
    | dic e => rcases z with z | z <;> (rw [e] at z; cases z)
end
def bnd : Nat → Nat
  | 0 => 45
  | n + 1 => 45 * bnd n + 93
theorem bnd_le (n : Nat) : bnd n ≤ bnd (n + 1) := by
  show bnd n ≤ 45 * bnd n + 93
  omega
theorem flat_len {d : PyData} (h : flatD d = true) : d.shown.length ≤ 45 ∧ d.showable = true ∧ d.depth ≤ 1 := by
  cases d with
  | none => exact ⟨by decide, rfl, by decide⟩
  | bool b => cases b <;> exact ⟨by decide, rfl, by decide⟩
  | int i =>
    have h' : (decide (i.natAbs.log2 < 1920) && decide ((toString i : Str).length ≤ 45)) = true := h
    rw [Bool.and_eq_true] at h'
    refine ⟨?_, ?_, Nat.zero_le _⟩
    · simp only [PyData.shown]
      exact of_decide_eq_true h'.2
    · simp only [PyData.showable]
      exact h'.1
  | str x =>
    refine ⟨?_, by simp only [PyData.showable], Nat.zero_le _⟩
    simp only [PyData.shown]
    exact of_decide_eq_true h
  | dict kvs =>
    cases kvs with
    | nil => exact ⟨by decide +kernel, by simp only [PyData.showable, PyData.showableKv], by decide⟩
    | cons a b => cases h
  | list ds => cases h
  | tuple ds => cases h
theorem sum_le {b : Nat} : ∀ {ts : List Str}, (∀ t ∈ ts, t.length ≤ b) → (ts.map (·.length)).sum ≤ b * ts.length
  | [], _ => Nat.zero_le _
  | t :: ts, h => by
    have h1 := h t List.mem_cons_self
    have h2 := sum_le (b := b) (ts := ts) fun y hy => h y (List.mem_cons_of_mem _ hy)
    rw [List.map_cons, List.sum_cons, List.length_cons, Nat.mul_succ]
    omega
theorem shownAll_mem : ∀ {ds : List PyData} {t : Str}, t ∈ PyData.shownAll ds → ∃ d ∈ ds, d.shown = t
  | [], t, h => by
    simp only [PyData.shownAll] at h
    cases h
  | d :: ds, t, h => by
    simp only [PyData.shownAll] at h
    rcases List.mem_cons.mp h with h | h
    · exact ⟨d, List.mem_cons_self, h.symm⟩
    · obtain ⟨e, h1, h2⟩ := shownAll_mem h
      exact ⟨e, List.mem_cons_of_mem _ h1, h2⟩
theorem shownAll_len : ∀ ds : List PyData, (PyData.shownAll ds).length = ds.length
  | [] => by simp only [PyData.shownAll, List.length_nil]
  | d :: ds => by simp only [PyData.shownAll, List.length_cons, shownAll_len ds]
theorem showAll_of : ∀ {ds : List PyData}, (∀ d ∈ ds, d.showable = true) → PyData.showableAll ds = true
  | [], _ => by simp only [PyData.showableAll]
  | d :: ds, h => by
    simp only [PyData.showableAll, h d List.mem_cons_self, showAll_of fun y hy => h y (List.mem_cons_of_mem _ hy), Bool.and_self]
theorem depthAll_of {n : Nat} : ∀ {ds : List PyData}, (∀ d ∈ ds, d.depth ≤ n) → PyData.depthAll ds ≤ n
  | [], _ => Nat.zero_le _
  | d :: ds, h => by
    have h1 := h d List.mem_cons_self
    have h2 := depthAll_of (n := n) (ds := ds) fun y hy => h y (List.mem_cons_of_mem _ hy)
    show max d.depth (PyData.depthAll ds) ≤ n
    omega
theorem texts_le {b : Nat} {ds : List PyData} (h : ∀ d ∈ ds, d.shown.length ≤ b) : (listText (PyData.shownAll ds)).length ≤ b * ds.length + 2 * ds.length + 3 ∧ (tupleText (PyData.shownAll ds)).length ≤ b * ds.length + 2 * ds.length + 3 := by
  have q : ((PyData.shownAll ds).map (·.length)).sum ≤ b * (PyData.shownAll ds).length := sum_le fun t ht => by
    obtain ⟨d, h1, h2⟩ := shownAll_mem ht
    rw [← h2]
    exact h d h1
  have l := shownAll_len ds
  rw [l] at q
  have h1 := listText_len_le (PyData.shownAll ds)
  have h2 := tupleText_len_le (PyData.shownAll ds)
  rw [l] at h1 h2
  exact ⟨by omega, by omega⟩
theorem Sm.text : ∀ {n : Nat} {d : PyData}, Sm n d → d.shown.length ≤ bnd n ∧ d.showable = true ∧ d.depth ≤ n + 1
  | 0, d, h => flat_len h
  | n + 1, d, h => by
    rcases h with h | ⟨ds, h1, h2, h3⟩
    · obtain ⟨q1, q2, q3⟩ := flat_len h
      refine ⟨?_, q2, by omega⟩
      show _ ≤ 45 * bnd n + 93
      omega
    · have k : ∀ y ∈ ds, y.shown.length ≤ bnd n ∧ y.showable = true ∧ y.depth ≤ n + 1 := fun y hy => (h3 y hy).text
      obtain ⟨t1, t2⟩ := texts_le fun y hy => (k y hy).1
      have e : bnd n * ds.length ≤ bnd n * 45 := Nat.mul_le_mul_left _ h2
      have s := showAll_of fun y hy => (k y hy).2.1
      have p := depthAll_of fun y hy => (k y hy).2.2
      have u : bnd (n + 1) = 45 * bnd n + 93 := rfl
      rcases h1 with rfl | rfl
      · refine ⟨?_, by simpa only [PyData.showable] using s, by simp only [PyData.depth]; omega⟩
        simp only [PyData.shown]
        omega
      · refine ⟨?_, by simpa only [PyData.showable] using s, by simp only [PyData.depth]; omega⟩
        simp only [PyData.shown]
        omega
/-- three parts of small data can be shown -/
theorem three_text {a b c : PyData} (h1 : Sm 3 a) (h2 : Sm 3 b) (h3 : Sm 3 c) : PyData.showableAll [a, b, c] = true ∧ PyData.depthAll [a, b, c] ≤ 60 ∧ (PyData.tuple [a, b, c]).shown.length ≤ sizeLine := by
  have k : ∀ y ∈ [a, b, c], y.shown.length ≤ bnd 3 ∧ y.showable = true ∧ y.depth ≤ 4 := fun y hy => by
    simp only [List.mem_cons, List.not_mem_nil, or_false] at hy
    rcases hy with rfl | rfl | rfl
    · exact h1.text
    · exact h2.text
    · exact h3.text
  refine ⟨showAll_of fun y hy => (k y hy).2.1, Nat.le_trans (depthAll_of fun y hy => (k y hy).2.2) (by decide), ?_⟩
  simp only [PyData.shown]
  obtain ⟨_, t⟩ := texts_le fun y hy => (k y hy).1
  exact Nat.le_trans t (by show bnd 3 * 3 + 2 * 3 + 3 ≤ sizeLine; decide)
end Af

set_option Elab.async false
set_option linter.all false
set_option maxRecDepth 100000
namespace Af
open PySem PySem.Spec PyProof.Rows L2
/-! an object made where an exception is caught -/
section
variable {X : Cx} {CX : CXT} {k : Nat} {f C : Addr} {fd : FuncData} {ps : List Str} {sp : Sp} {E : L2.St → XK} {x : Str} {p pos : Pos} {e : Expr} {es : List Expr} {t : TA}
def tMakeS (C : Addr) (sp : Sp) (E : L2.St → XK) (t : TA) : TE := fun σ H Q => t σ H fun vs G => ∀ a d, G a = none → G d = none → d ≠ a → sp (.ref a :: vs) (upd (upd G d (.own a)) a (.ins C d [])) (fun v G' => v = .non ∧ Q (.ref a) G') (E σ)
theorem run_makeS {pins : List (Addr × Obj)} {σ : L2.St} {H : Hp} {s : Shared} {Q : VK} {us : List Value} {vs : List V} (M : Mk X.K C f) (F : FnOk X.prog X.w X.K X.mg X.base CX k f fd ps sp) (room : Room (k + 1) X.A) (b : Binds X.K fd ps []) (out : PassesAt CX X σ (E σ)) (I : Inv X pins σ H s) (r : Vals vs us)
    (h : ∀ a d, H a = none → H d = none → d ≠ a → sp (.ref a :: vs) (upd (upd H d (.own a)) a (.ins C d [])) (fun v G => v = .non ∧ Q (.ref a) G) (E σ)) : wpAny (model X.prog X.w) X.A (call (.ref C) us) (EP X pins σ Q) X.xe s := by
  have q := h (s.heap.objs.size + 1) s.heap.objs.size (I.hok.fresh (Nat.le_succ _)) (I.hok.fresh (Nat.le_refl _)) (Nat.ne_of_lt (Nat.lt_succ_self _))
  have J := Inv.made (C := C) I
  have rr : Vals (V.ref (s.heap.objs.size + 1) :: vs) (Value.ref (s.heap.objs.size + 1) :: us) := .cons rfl r
  have nl : (Value.ref (s.heap.objs.size + 1) :: us).length = ps.length := by
    rw [← rr.length]
    exact F.len _ _ _ _ q
  have bb := b _ (Value.ref (s.heap.objs.size + 1) :: us) J.kIn (by rw [List.append_nil]; exact nl)
  rw [List.append_nil] at bb
  refine wpAny_call (make_map (f := f) I.kIn M.makes M.init (beq_iff_eq.mp M.fn) (codeAny_mono (F.run _ X.stack _ _ ⟨Value.ref (s.heap.objs.size + 1) :: us, []⟩ (Value.ref (s.heap.objs.size + 1) :: us) _ _ (E σ) (room.make C us []) (J.env0.make C us []) bb rr q) fun r s' z => ?_))
  match r, z with
  | .error e, z => exact out pins _ _ e s' J z
  | .ok (.ret u), z =>
    obtain ⟨v, G, I3, rv, ev, q3⟩ := J.after z
    subst ev
    exact ⟨rv, ⟨V.ref (s.heap.objs.size + 1), G, I3, rfl, q3⟩⟩
  | .ok .next, z => exact (show False from z).elim
  | .ok .brk, z => exact (show False from z).elim
  | .ok .cont, z => exact (show False from z).elim
theorem pe_makeS (M : Mk X.K C f) (F : FnOk X.prog X.w X.K X.mg X.base CX k f fd ps sp) (room : Room (k + 1) X.A) (hg : Gl X x) (hm : X.mg x = some (.ref C)) (b : Binds X.K fd ps []) (out : ∀ σ, PassesAt CX X σ (E σ)) (ha : PA X (e :: es) t)
    (dbg : (x == ("__debug__" : Str)) = false := by decide) (he : starEach (e :: es) X.env = (false, eval e X.env) :: starEach es X.env := by rfl) (pl : (backTo pos (starEach es X.env)).any (·.1) = false := by rfl) :
    PE X (.Call (.Name x p) (e :: es) [] pos) (tMakeS C sp E t) := by
  refine ⟨fun pins s σ H Q I h => wpAny_Call_Name_kw (ld_glob I hg hm (PySem.W.callWith_K (h₀ := X.base) I.ok.mod.kin M.kp (thn (ha.run pos pins s σ H _ I h) fun us s1 z => ?_) he pl) dbg)⟩
  obtain ⟨vs, G, I1, r, q⟩ := z
  exact ⟨I1.kIn, run_makeS M F room b (out σ) I1 r q⟩
end
end Af

set_option Elab.async false
set_option linter.all false
set_option maxRecDepth 100000
set_option maxHeartbeats 2000000
namespace Af
open PySem PySem.Spec PyProof.Rows L2
/-! an error that a suite puts into a name is held behind the try -/
def HeldE (cls : Value) (d : Option Addr) (a : Addr) : HO := .ext fun h => ∃ (oe : Obj) (vs : Array Value), h.get? a = some oe ∧ Zc cls d oe ∧ oe.data = .fields vs
theorem heldE_ok {P : Program} {w : World} {H : Hp} {h : Heap} {a : Addr} {cls : Value} {d : Option Addr} {oe : Obj} {vs : Array Value} (e : h.get? a = some oe) (z : Zc cls d oe) (q : oe.data = .fields vs) : ObjOk P w H h a (HeldE cls d a) :=
  ⟨⟨oe, vs, e, z, q⟩, ⟨oe, e⟩, fun _ _ ⟨o, v, y, r⟩ k => ⟨o, v, k o y, r⟩⟩
/-- what 'except x as n' wishes: behind the suite the error is held -/
def wHold (K : PySem.W.Frag) (c : Value) (i : Nat) (ts : Addr → Value → Option Addr → TS) (Wout : WX) (D : Ends) : WX := fun cls d σ H => ∃ yes, PySem.W.exmOne K cls c = some yes ∧
  (yes = true → ∀ a, H a = none → ts a cls d { nx := fun τ G => D.nx (τ.set i none) (upd G a (HeldE cls d a)), rt := fun _ _ => False, bk := fun _ _ => False, ct := fun _ _ => False } (σ.set i (some (.ref a))) H) ∧ (yes = false → Wout cls d σ H)
section
variable {X : Cx} {x n : Str} {c : Value} {i : Nat} {body suite : List Stmt} {b₀ : Stmt} {np pos pos' : Pos} {tb : WX → TS} {ts : Addr → Value → Option Addr → TS} {Wout : WX}
theorem hold_end {pins : List (Addr × Obj)} {σ : L2.St} {H : Hp} {s : Shared} {a : Addr} {oe : Obj} {vs : Array Value} {cls : Value} {d : Option Addr} (I : Inv X ((a, oe) :: pins) σ H s) (z : Zc cls d oe) (q : oe.data = .fields vs) (fresh : X.s_0.heap.get? a = none)
    (apart : ∀ p ∈ X.pn ++ pins, p.1 ≠ a) : Inv X pins σ (upd H a (HeldE cls d a)) s := by
  obtain ⟨ea, na, nl, nf, nc⟩ := I.pin (a, oe) (List.mem_append.mpr (.inr List.mem_cons_self))
  have ins : ∀ p ∈ X.pn ++ pins, p ∈ X.pn ++ (a, oe) :: pins := fun p hp => by
    rcases List.mem_append.mp hp with hp | hp
    · exact List.mem_append.mpr (.inl hp)
    · exact List.mem_append.mpr (.inr (List.mem_cons_of_mem _ hp))
  have B := I.base
  refine ⟨I.ok, I.os, I.bare, ⟨B.keep, B.slot, fun b o e n x => ?_, B.there, fun b ys e => ?_, fun b o u e => ?_, fun b ps e => ?_⟩, I.loc, I.cell, ?_, fun y c e => ?_, fun p hp => ?_, ?_, I.len⟩
  · rw [upd_ne (fun y => by rw [y, fresh] at e; cases e)]
    exact B.free b o e n x
  · have y := B.tups b ys e
    rw [upd_ne (ne_of_none y na)]
    exact y
  · have y := B.frzs b o u e
    rw [upd_ne (ne_of_none y na)]
    exact y
  · obtain ⟨more, y⟩ := B.tbls b ps e
    exact ⟨more, by rw [upd_ne (ne_of_none y na)]; exact y⟩
  · rw [upd_ne (Ne.symm nl)]
    exact I.free
  · have f := I.freeC y c e
    by_cases h : c = a
    · obtain ⟨v, o, ho, hd⟩ := I.cell y c e
      rw [h, ea] at ho
      cases ho
      exact absurd hd (nc _)
    · rw [upd_ne h]
      exact f
  · obtain ⟨p1, p2, p3, p4, p5⟩ := I.pin p (ins p hp)
    exact ⟨p1, by rw [upd_ne (apart p hp)]; exact p2, p3, p4, p5⟩
  · exact I.hok.laidN (fun _ _ y => y) na (heldE_ok ea z q)
/-- try: body, except x as n: suite, where the suite runs through -/
theorem ps_try_hold (hs : X.stack = X.env :: X.outer) (hf : X.env.frame = some X.env.locals) (hN : X.N.Nodup) (hi : X.N[i]? = some n) (hln : X.env.kindOf n = some .local) (hex : X.ex = []) (hc : Names X x c) (tk : Takes X Wout)
    (main : ∀ (W : WX) (pn : List (Addr × Obj)) (xe : Value → Shared → Prop), Takes (X.tr pn xe) W → PassesOwn (model X.prog X.w) X.A X.env xe → PSs (X.tr pn xe) body (tb W))
    (after : ∀ (a : Addr) (oe : Obj) (cls : Value) (d : Option Addr) (pn : List (Addr × Obj)), Zc cls d oe → (∃ vs, oe.data = .fields vs) → PSs (X.suite a ((a, oe) :: pn)) (b₀ :: suite) (ts a cls d)) :
    PS X (.Try body [.ExceptHandler (some (.Name x np)) (some n) (b₀ :: suite) pos'] [] [] pos) (fun D σ H => tb (wHold X.K c i ts Wout D) D σ H) := by
  refine ⟨fun pins s σ H D I start => ?_⟩
  have okX := I.ok
  have frm : X.A.frames = some (X.env :: X.outer) := by rw [okX.frames, hs]
  refine wpAny_Try_except (wpAny_mono ((main (wHold X.K c i ts Wout D) (X.pn ++ pins) (fun e u => wpAny (model X.prog X.w) X.A (noteFrame e X.env) (fun _ u2 => wpAny (model X.prog X.w) X.A (setFlight e none) (fun _ u3 =>
    wpAny (model X.prog X.w) X.A (handleBy e X.env [.ExceptHandler (some (.Name x np)) (some n) (b₀ :: suite) pos']) (SP X pins D) X.xe u3) X.xe u2) X.xe u) (fun eu sr air => ?_) PassesOwn.looking).run [] s σ H D (I.toTry _) start) (fun fl s1 done => ?_) (fun _ _ y => y))
  · obtain ⟨a, B, s0, ps0, τ, G, cls, d, rfl, I0, nb, upS, sky, na, osE, bare, yes, hyes, onYes, onNo⟩ := air
    have I1 : Inv X pins τ G s0 := I0.ofTry okX
    show wpAny (model X.prog X.w) X.A (noteFrame (.ref a) X.env) _ _ _
    refine Sky.land Zc.steady frm hf (hs ▸ sky) fun h3 fly up3 => ?_
    have I3 : Inv X pins τ G { sr with heap := h3 } := I1.landed nb fly.1 (upS.trans up3) osE bare
    obtain ⟨o3, v3, at3, z3, d3⟩ := fly.there
    have offs : a ∉ frs (X.env :: X.outer) := fun m => by
      obtain ⟨_, o', e', nfd⟩ := fly.2.2.1.mem m
      rw [at3] at e'
      cases e'
      exact nfd _ d3
    have offL : a ≠ X.env.locals := fun y => offs (List.mem_filterMap.mpr ⟨X.env, List.mem_cons_self, by rw [hf, y]⟩)
    have offF : a ∉ X.fs := fun m => by
      obtain ⟨e, he, y⟩ := List.mem_filterMap.mp m
      exact offs (List.mem_filterMap.mpr ⟨e, List.mem_cons_of_mem _ he, y⟩)
    -- it is younger than all that stood ahead
    have young : s0.heap.get? a = none := by
      cases y : s0.heap.get? a with
      | none => rfl
      | some o =>
        have y2 := nb a o y (by rw [hs]; exact offs)
        rw [fly.2.1] at y2
        cases y2
    have fresh : X.s_0.heap.get? a = none := by
      cases y : X.s_0.heap.get? a with
      | none => rfl
      | some o =>
        obtain ⟨o', y2⟩ := I1.base.there a o y (by rw [hex]; simp)
        rw [young] at y2
        cases y2
    have apart : ∀ p ∈ X.pn ++ pins, p.1 ≠ a := fun p hp y => by
      obtain ⟨p1, _⟩ := I1.pin p hp
      rw [y, young] at p1
      cases p1
    have J3 := I3.suite at3 d3 na offL offF
    refine wpAny_handleBy_cons (codeAny_handlers_test ?_) (by intro y; cases y)
    have kind : PySem.W.Looks (model X.prog X.w) h3 (typeOf (.ref a)) cls := fun _ _ _ _ keep y => wpAny_typeOf_ref (keep _ _ at3) (by rw [z3.1]; exact y)
    have match_ := PySem.W.exm_one (M := model X.prog X.w) I3.kIn kind hyes
    have named : ∀ {R : Value → Shared → Prop} {E : Value → Shared → Prop}, R c { sr with heap := h3 } → wpAny (model X.prog X.w) (X.A.mark (some (.ref a))) (eval (.Name x np) X.env) R E { sr with heap := h3 } := fun {R E} y => by
      obtain ⟨g, dbg, own | ⟨no, bt, nn⟩⟩ := hc
      · exact ld_glob (X := X.suite a ((a, o3) :: (X.pn ++ pins))) J3 g own y dbg
      · exact ld_blt (X := X.suite a ((a, o3) :: (X.pn ++ pins))) J3 g no bt y nn dbg
    refine named (match_.here ?_)
    cases yes with
    | true =>
      refine codeAny_handlers_suite_as (HandSPX.lands_againZ fly fun h4 fly4 up4 => ?_)
      have I4 : Inv X pins τ G { sr with heap := h4 } := I1.landed nb fly4.1 ((upS.trans up3).trans up4) osE bare
      obtain ⟨o4, v4, at4, z4, d4⟩ := fly4.there
      refine store_ok (X := X.suite a ((a, o4) :: (X.pn ++ pins))) (v := .ref a) (I4.suite at4 d4 na offL offF) hN hi (.inl hln) rfl (fun s5 I5 => ?_) (.inr hln)
      refine wpAny_mono ((after a o4 cls d (X.pn ++ pins) z4 ⟨_, d4⟩).run [] s5 _ G _ I5 (onYes rfl a na)) (fun fl s6 y => ?_) (fun _ _ y => False.elim y)
      match fl, y with
      | .next, ⟨τ6, G6, I6, q6⟩ =>
        have I6' : Inv X ((a, o4) :: pins) τ6 G6 s6 := by
          have u := I6.unsuite (q := (a, o4)) okX
          exact ⟨u.ok, u.os, u.bare, u.base, u.loc, u.cell, u.free, u.freeC, fun p hp => by
            rcases List.mem_append.mp hp with hp | hp
            · exact u.pin p (List.mem_append.mpr (.inl hp))
            · rcases List.mem_cons.mp hp with rfl | hp
              · exact I6.pin _ (List.mem_append.mpr (.inl List.mem_cons_self))
              · exact u.pin p (List.mem_append.mpr (.inr hp)), u.hok, u.len⟩
        exact gone_ok I6' hN hi hln fun s7 I7 => ⟨_, _, hold_end I7 z4 d4 fresh apart, q6⟩
      | .ret u, ⟨_, _, _, _, _, q6⟩ => exact q6.elim
      | .brk, ⟨_, _, _, q6⟩ => exact q6.elim
      | .cont, ⟨_, _, _, q6⟩ => exact q6.elim
    | false =>
      show wpAny _ X.A (handleBy (.ref a) X.env []) _ _ _
      refine wpAny_handleBy_nil ?_
      obtain ⟨_, _, _, oe, vs, T, oT, tr, he, hz, hd, hT, _⟩ := id fly
      have up : wpAny (model X.prog X.w) X.A (setFlight (.ref a) X.env.frame) (fun _ u => wpAny (model X.prog X.w) X.A (throw (.ref a) : Sem Flow) (SP X pins D) X.xe u) X.xe { sr with heap := h3 } := by
        rw [hf]
        exact HandSPX.setFlight_upZ fly fun h4 held up4 => wpAny_throw (tk _ _ ⟨a, B, s0, pins, τ, G, cls, d, rfl, I1, nb, (upS.trans up3).trans up4, .inr (.inr (by rw [hs]; exact held)), na, osE, bare, onNo rfl⟩)
      unfold PySem.passOn
      refine wpAny_bind (wpAny_field he hd hT ?_)
      rw [if_neg (show ¬ ((Value.ref T == Value.none) = true) from by simp)]
      first
        | exact wpAny_bind (wpAny_pure (wpAny_bind up))
        | exact wpAny_bind up
  · match fl, done with
    | .next, ⟨τ, G, J, q⟩ => exact wpAny_execs_nil ⟨τ, G, J.ofTry okX, q⟩
    | .brk, ⟨τ, G, J, q⟩ => exact ⟨τ, G, J.ofTry okX, q⟩
    | .cont, ⟨τ, G, J, q⟩ => exact ⟨τ, G, J.ofTry okX, q⟩
    | .ret u, ⟨v, τ, G, J, r, q⟩ => exact ⟨v, τ, G, J.ofTry okX, r, q⟩
/-- isinstance(e, c) of an error that is held -/
def rIsHeld (K : PySem.W.Frag) (D : Addr) : List V → Hp → VK → Prop := fun xs H Q => ∃ (a : Addr) (c : V) (cv : Value) (b : Bool), xs = [.ref a, c] ∧ H a = some (HeldE (.ref D) none a) ∧ ClsV c cv ∧ PySem.W.kitOne K (.ref D) cv = some b ∧ Q (.bl b) H
theorem held_at {pins : List (Addr × Obj)} {σ : L2.St} {H : Hp} {s : Shared} {a D : Addr} (I : Inv X pins σ H s) (h : H a = some (HeldE (.ref D) none a)) : ∃ oe, PySem.W.InstAt s.heap a oe D none := by
  obtain ⟨⟨oe, vs, e, ⟨c1, c2⟩, dd⟩, _⟩ := (show ObjOk X.prog X.w H s.heap a (HeldE (.ref D) none a) from I.hok a _ h)
  obtain ⟨oc, od, oda, osl⟩ := oe
  dsimp only at c1 c2 dd
  subst c1 c2 dd
  exact ⟨_, e, rfl, rfl, trivial⟩
theorem call_isHeld {D : Addr} (C : L2.ExcC X.K D) : CallR X (.builtin "isinstance") (rIsHeld X.K D) := by
  intro pins s σ H xs us Q I r h
  obtain ⟨a, c, cv, b, rfl, ha, k, e, q⟩ := h
  obtain ⟨u1, u2, rfl, r1, r2⟩ := vals2 r
  cases (show u1 = Value.ref a from r1)
  have e2 := k.eq r2
  subst e2
  obtain ⟨oe, J⟩ := held_at I ha
  exact PySem.W.kia_one (PySem.W.handS_kitx_exc C.hg C.hk C.hs C.hd C.ha C.hn C.ht C.hm) I.kIn J e (fun y => nomatch y) fun tk => ⟨.bl b, H, I.tok tk, rfl, q⟩
/-- the same, a tuple of classes that was just laid -/
def rIsHeldT (K : PySem.W.Frag) (D : Addr) : List V → Hp → VK → Prop := fun xs H Q => ∃ (a tp : Addr) (cs : List V) (cvs : List Value) (b : Bool), xs = [.ref a, .ref tp] ∧ H a = some (HeldE (.ref D) none a) ∧ H tp = some (.tup cs) ∧ Paired ClsV cs cvs ∧ PySem.W.kitAny K (.ref D) cvs = some b ∧ Q (.bl b) H
theorem call_isHeldT {D : Addr} (C : L2.ExcC X.K D) : CallR X (.builtin "isinstance") (rIsHeldT X.K D) := by
  intro pins s σ H xs us Q I r h
  obtain ⟨a, tp, cs, cvs, b, rfl, ha, ht, k, e, q⟩ := h
  obtain ⟨u1, u2, rfl, r1, r2⟩ := vals2 r
  cases (show u1 = Value.ref a from r1)
  cases (show u2 = Value.ref tp from r2)
  obtain ⟨oe, J⟩ := held_at I ha
  obtain ⟨its, rv, ⟨o, h1, h2, n, h3⟩, _⟩ := I.tuple (SqT.of ht)
  have e3 := ClsV.all k rv
  subst e3
  obtain ⟨oc, od, dt, sl⟩ := o
  simp only at h2 h3
  subst h2 h3
  exact PySem.W.kia_tup (PySem.W.handS_kitx_exc C.hg C.hk C.hs C.hd C.ha C.hn C.ht C.hm) I.kIn J h1 e (fun y => nomatch y) fun tk => ⟨.bl b, H, I.tok tk, rfl, q⟩
end
end Af

set_option Elab.async false
set_option linter.all false
set_option maxRecDepth 100000
namespace Af
open PySem PySem.Spec PyProof.Rows L2
/-! a def that asks repr, called where no repr is under way; repr of data of any kind -/
structure CalG (P : Program) (w : World) (K : PySem.W.Frag) (mg : Str → Option Value) (base : Heap) (k : Nat) (x : Str) (ps : List Str) (sp : Sp) : Prop where
  ex : ∃ (f : Addr) (fd : FuncData), FnG P w K mg base k f fd ps sp ∧ mg x = some (.ref f) ∧ PySem.W.keepIn K (.ref f) = true ∧ Binds K fd ps []
section
variable {X : Cx} {k j : Nat} {x : Str} {ps : List Str} {sp : Sp} {e : Expr} {es : List Expr} {t : TA} {p pos : Pos}
theorem pe_calG (c : CalG X.prog X.w X.K X.mg X.base k x ps sp) (room : Room j X.A) (quiet : X.A.guards = some []) (ha : PA X (e :: es) t) (hkj : k ≤ j := by decide) (hg : Gl X x := by rfl) (dbg : (x == ("__debug__" : Str)) = false := by decide)
    (he : starEach (e :: es) X.env = (false, eval e X.env) :: starEach es X.env := by rfl) (pl : (backTo pos (starEach es X.env)).any (·.1) = false := by rfl) :
    PE X (.Call (.Name x p) (e :: es) [] pos) (tCal sp t) := by
  obtain ⟨f, fd, G, m, kp, b⟩ := c.ex
  refine ⟨fun pins s σ H Q I h => wpAny_Call_Name_kw (ld_glob I hg m (PySem.W.callWith_K (h₀ := X.base) I.ok.mod.kin kp (thn (ha.run pos pins s σ H _ I h) fun us s1 z => ?_) he pl) dbg)⟩
  obtain ⟨vs, H1, I1, r, q⟩ := z
  refine ⟨I1.kIn, ?_⟩
  have nl : us.length = ps.length := by
    rw [← r.length]
    exact G.many _ _ _ _ q
  have bb := b s1 us I1.kIn (by rw [List.append_nil]; exact nl)
  rw [List.append_nil] at bb
  refine wpAny_call (codeAny_mono (G.goes X.A X.stack s1 H1 ⟨us, []⟩ us vs Q E0 (room.mono hkj) quiet I1.env0 bb r q) fun r s' z => ?_)
  match r, z with
  | .error e, z => exact pass0 pins σ H1 s1 e s' I1 z
  | .ok (.ret u), z => exact I1.after z
  | .ok .next, z => exact (show False from z).elim
  | .ok .brk, z => exact (show False from z).elim
  | .ok .cont, z => exact (show False from z).elim
end
section
variable {X : Cx} {pins : List (Addr × Obj)} {σ : L2.St} {H : Hp} {s : Shared}
def rReprL (K : PySem.W.Frag) : List V → Hp → VK → Prop := fun xs H Q => ∃ (a : Addr) (vs : List V) (ds : List PyData), xs = [.ref a] ∧ H a = some (.lst vs) ∧ DqAll K H vs ds ∧ PyData.showableAll ds = true ∧ PyData.depthAll ds ≤ 60 ∧ (PyData.list ds).shown.length ≤ sizeLine ∧ Q (.str (PyData.list ds).shown) H
/-- repr of a list of data -/
theorem call_reprL (hg : X.A.guards = some []) (hu : X.A.units + 64 < cLine) : CallR X (.builtin "repr") (rReprL X.K) := by
  intro pins s σ H xs us Q I r h
  obtain ⟨a, vs, ds, rfl, hs, hd, sh, dp, sz, q⟩ := h
  obtain ⟨u, rfl, ru⟩ := vals1 r
  cases (show u = Value.ref a from ru)
  obtain ⟨its, rv, ⟨o, n, ho, hc, _, hdd⟩, _⟩ := I.list (SqL.of hs)
  have sz' : (listText (PyData.shownAll ds)).length ≤ sizeLine := by simpa only [PyData.shown] using sz
  obtain ⟨as, bs, hr, hb, hk⟩ := Dq.seesAll I ds vs its hd rv sh fun t ht => Nat.le_trans (listText_mem_le ht) sz'
  have rd : Reads s.heap (.ref a) (.list ds) _ := .list ho hc hdd hr
  have new : a ∉ bs := not_mem_of_deeper rd (by simp only [PyData.depth]; omega) hb
  have txt : (PyData.list ds).shown = listText (PyData.shownAll ds) := by simp only [PyData.shown]
  refine call_repr_slot (T := "list") (by omega) ⟨o, ho, hc⟩ PySem.F.slot_list_repr.toG ?_
  cases its with
  | nil =>
    cases hr
    have e0 : (PyData.list []).shown = ("[]" : Str) := by simp only [PyData.shown, PyData.shownAll, listText_nil]
    refine call_list_repr_empty ⟨o, ho, hc⟩ ho hdd ⟨_, _, rfl, .str (PyData.list []).shown, H, ?_, ⟨_, by rw [e0]⟩, q⟩
    exact I.kept (t' := _) fun _ _ y => y
  | cons y l =>
    refine call_list_reprK ho hc hdd new (by simpa using hk.length_eq) (fun i y e => hk.item i y (by simpa using e)) hg (fun b _ => Clear.nil b) (by show X.A.units + 1 + (PyData.depthAll ds + 1) < cLine; omega) (fun _ _ e => e) (fun h' u tk keep => ?_) sz'
    refine ⟨_, _, rfl, .str (PyData.list ds).shown, H, I.kept keep, ⟨u, ?_⟩, q⟩
    simp only [PyData.shown]
end
end Af

set_option Elab.async false
set_option linter.all false
set_option maxRecDepth 100000
namespace Af
open PySem PySem.Spec PyProof.Rows L2
/-! xs.count(None), exactly; repr of a thing of any kind -/
def rCntX (K : PySem.W.Frag) : V → List V → Hp → VK → Prop := fun x xs H Q => ∃ (p : Addr) (ys : List V) (ds : List PyData), x = .ref p ∧ xs = [.non] ∧ SqL K H p ys ∧ DpAll K H ys ds ∧ PyData.canLayAll0 ds = true ∧ Q (.int ((ds.countP (fun y => PyData.eqv y .none) : Nat) : Int)) H
theorem mt_countX {X : Cx} (hu : X.A.units + 1 < cLine) : MtR X "list.count" (rCntX X.K) := by
  intro pins s σ H x xs v us Q I rx rxs h
  obtain ⟨p, ys, ds, rfl, rfl, hs, hd, hl, q⟩ := h
  cases (show v = Value.ref p from rx)
  obtain ⟨u, rfl, ru⟩ := rxs.one
  cases (show u = Value.none from ru)
  obtain ⟨its, rv, pl, _⟩ := I.list hs
  obtain ⟨as, rs⟩ := Dp.readsAll I ds ys its hd rv
  refine PySem.SeqAt.count_list_data (d := .none) (vs := its.toArray) pl.isList (by simpa using rs) Reads.none (PyData.plainAll_of_canLay0 _ hl) rfl (by show X.A.units + 1 + min _ 0 < cLine; omega) ?_
  exact ⟨.int (ds.countP (fun y => PyData.eqv y .none) : Nat), H, I.tok _, ⟨_, rfl⟩, q⟩
/-- the barriers among these steps -/
def bars (l : List Stp) : Nat := l.countP fun s => s.isNone
theorem bars_count : ∀ l : List Stp, (stepsD l).countP (fun y => PyData.eqv y .none) = bars l
  | [] => rfl
  | a :: l => by
    have e : stepsD (a :: l) = stepD a :: stepsD l := rfl
    unfold bars
    rw [e, List.countP_cons, List.countP_cons, bars_count l]
    cases a with
    | none => rfl
    | some fw =>
      obtain ⟨f, ws⟩ := fw
      rfl
theorem bars_app (a b : List Stp) : bars (a ++ b) = bars a + bars b := List.countP_append ..
/-- repr of data that is no list, tuple or dict -/
def rReprF : List V → Hp → VK → Prop := fun xs H Q => ∃ (x : V) (d : PyData), xs = [x] ∧ (∀ K, Dq K H x d) ∧ flatD d = true ∧ (∀ kvs, d ≠ .dict kvs) ∧ Q (.str d.shown) H
theorem call_reprF {X : Cx} (hg : X.A.guards = some []) (hu : X.A.units + 64 < cLine) : CallR X (.builtin "repr") rReprF := by
  intro pins s σ H xs us Q I r h
  obtain ⟨x, d, rfl, hd, fl, nd, q⟩ := h
  obtain ⟨u, rfl, ru⟩ := vals1 r
  obtain ⟨tx, sh, dp⟩ := flat_len fl
  cases hd X.K with
  | int i =>
    obtain ⟨t, rfl⟩ := ru
    have lg : i.natAbs.log2 < 1920 := of_decide_eq_true (show decide (i.natAbs.log2 < 1920) = true from by simpa only [PyData.showable] using sh)
    refine PySem.P.repr_of_int lg ⟨.str _, H, I.tok _, ⟨_, rfl⟩, ?_⟩
    simpa only [PyData.shown] using q
  | non =>
    cases (show u = Value.none from ru)
    refine PySem.P.repr_of_none ⟨.str _, H, I.tok _, ⟨_, rfl⟩, ?_⟩
    simpa only [PyData.shown] using q
  | bl b =>
    cases (show u = Value.bool b from ru)
    refine PySem.P.repr_of_bool ⟨.str (PyData.bool b).shown, H, I.tok _, ⟨s.toks, ?_⟩, q⟩
    cases b <;> simp only [PyData.shown] <;> rfl
  | str z =>
    obtain ⟨t, rfl⟩ := ru
    refine PySem.P.repr_of_str ⟨.str (PyData.str z).shown, H, I.tok _, ⟨s.toks, ?_⟩, q⟩ ?_
    · simp only [PyData.shown]
    have := of_decide_eq_true fl
    exact Nat.le_trans this (by decide)
  | lst e t => cases fl
  | tup e t => cases fl
  | dic e => exact absurd rfl (nd _)
end Af

set_option Elab.async false
set_option linter.all false
set_option maxRecDepth 100000
set_option maxHeartbeats 4000000
namespace Af
open PySem L2
/-- the epoch of each step -/
def eps : Nat → List Stp → List Int
  | _, [] => []
  | k, s :: r => (k : Int) :: eps (if s.isNone = true then k + 1 else k) r
theorem eps_len : ∀ (l : List Stp) (k : Nat), (eps k l).length = l.length
  | [], _ => rfl
  | a :: l, k => by
    show (eps _ l).length + 1 = l.length + 1
    rw [eps_len l]
theorem eps_snoc (s : Stp) : ∀ (l : List Stp) (k : Nat), eps k (l ++ [s]) = eps k l ++ [((k + bars l : Nat) : Int)]
  | [], k => rfl
  | a :: l, k => by
    show (k : Int) :: eps _ (l ++ [s]) = (k : Int) :: (eps _ l ++ [((k + bars (a :: l) : Nat) : Int)])
    rw [eps_snoc s l]
    have e : bars (a :: l) = bars l + (if a.isNone = true then 1 else 0) := by
      unfold bars
      rw [List.countP_cons]
    rw [e]
    congr 3
    cases a with
    | none =>
      show (((k + 1 + bars l : Nat) : Int)) = ((k + (bars l + 1) : Nat) : Int)
      omega
    | some _ =>
      show (((k + bars l : Nat) : Int)) = ((k + (bars l + 0) : Nat) : Int)
      omega
theorem eps_take {l : List Stp} {i : Nat} {s : Stp} (h : l[i]? = some s) : eps 0 (l.take (i + 1)) = eps 0 (l.take i) ++ [((bars (l.take i) : Nat) : Int)] := by
  rw [List.take_add_one, h]
  show eps 0 (l.take i ++ [s]) = _
  rw [eps_snoc, Nat.zero_add]
theorem bars_take {l : List Stp} {i : Nat} {s : Stp} (h : l[i]? = some s) : bars (l.take (i + 1)) = bars (l.take i) + (if s.isNone = true then 1 else 0) := by
  rw [List.take_add_one, h]
  show bars (l.take i ++ [s]) = _
  rw [bars_app]
  congr 1
  unfold bars
  rw [List.countP_singleton]
def sp_epochsX : Sp := fun vs H Q _ => ∃ (a : Addr) (xs : List V) (sts : List Stp), vs = [.ref a] ∧ H a = some (.lst xs) ∧ Paired (StepV H) xs sts ∧ xs.length ≤ 100 ∧ ∀ l H', Same H H' → H l = none → H' l = some (.lst (ivs (eps 0 sts))) → Q (.ref l) H'
section
variable {P : Program} {w : World} {K : PySem.W.Frag} {mg : Str → Option Value} {base : Heap}
theorem ok_epochsX {f : Addr} {fd : FuncData} (F : Fun K "_epochs_of" "_epochs_of" s_epochs_of f fd) (T : Txt mg) : FnOk P w K mg base CX0 1 f fd ["steps"] sp_epochsX := by
  refine F.ok sc_epochs_of (fun vs H Q E h => ?_) (fun cdv A outer s H vs Q E hr h => ?_)
  · obtain ⟨_, _, _, rfl, _⟩ := h
    rfl
  obtain ⟨a, xs, sts, rfl, ha, hst, xl, k⟩ := h
  have hlen := paired_len hst
  refine ⟨_, (pss_cons (ps_par (i := 1) (j := 2) rfl sc_epochs_of.nd rfl rfl (by decide) rfl rfl (pa_cons (pe_lst' pa_nil) (pa_cons pe_int pa_nil)) (by rfl))
    (pss_cons (ps_for PassesOwn.never rfl (pi_list (pv 0)) (pg_name (i := 3) sc_epochs_of.nd rfl (Or.inl rfl))
      (pss_cons (ps_expr (pe_bm PySem.F.plainAttrs_list PySem.F.slot_list_append PySem.F.type_list_append mt_append (pv 1) (pa_cons (pv 2) pa_nil)))
    (pss_one (ps_if (pt_cmpR op_isN (pv 3) pe_non (nomark _))
      (pss_one (ps_aug (i := 2) sc_epochs_of.nd rfl (Or.inl rfl) pe_int ip_add))
      pss_nil))))
    (pss_one (ps_ret (pv 1))))), ?_⟩
  refine ⟨szr, fun el H1 hel s1 h1 => ⟨_, _, rfl, ?_⟩⟩
  refine ⟨_, rfl, a, rfl, ⟨xs, SqL.of (s1 _ _ ha)⟩, for_list (K := K) (a := a) (xs := xs) (fun i σ' H' => ∃ (v : Option V), σ' = [some (.ref a), some (.ref el), some (.int ((bars (sts.take i) : Nat) : Int)), v] ∧ Same H H' ∧ H' el = some (.lst (ivs (eps 0 (sts.take i))))) ?_ ?_ ?_ ?_⟩
  · exact ⟨none, rfl, s1, h1⟩
  · rintro i σ' H' _ ⟨v, rfl, s2, _⟩
    exact SqL.of (s2 _ _ ha)
  · rintro i x σ' H' hx ⟨v, rfl, s2, h2⟩
    have hi : i < xs.length := (List.getElem?_eq_some_iff.mp hx).1
    obtain ⟨st, hs1, hs2⟩ := paired_get hst hx
    have et := eps_take hs1
    have bt := bars_take hs1
    refine ⟨_, rfl, .inl ⟨rfl, _, SqL.of h2⟩, _, rfl, el, _, _, rfl, rfl, h2, szl (by rw [ivs_len, eps_len, List.length_take]; omega), ?_⟩
    have e2 : (upd H' el (.lst (ivs (eps 0 (sts.take i)) ++ [.int ((bars (sts.take i) : Nat) : Int)]))) el = some (.lst (ivs (eps 0 (sts.take (i + 1))))) := by
      rw [upd_same, et]
      unfold ivs
      rw [List.map_append]
      rfl
    cases st with
    | none =>
      have e : x = .non := hs2
      subst e
      refine ⟨_, rfl, rfl, _, rfl, iteT ?_⟩
      refine ⟨_, rfl, _, _, rfl, rfl, some .non, ?_, same_mut s2 hel, e2⟩
      rw [bt]
      rfl
    | some fw =>
      obtain ⟨f, ws⟩ := fw
      obtain ⟨t, b, e, _, _⟩ := hs2
      subst e
      refine ⟨_, rfl, rfl, _, rfl, iteF ⟨some (.ref t), ?_, same_mut s2 hel, e2⟩⟩
      rw [bt]
      rfl
  · rintro σ' H' ⟨v, rfl, s2, h2⟩
    rw [hlen, List.take_length] at h2
    exact ⟨_, rfl, k el H' s2 hel h2⟩
end
end Af

set_option Elab.async false
set_option linter.all false
set_option maxRecDepth 100000
namespace Af
open PySem L2
abbrev s_is_integer : Stmt := top 7
abbrev N_is_integer : List Str := ["thing"]
theorem sc_is_integer : FnScope N_is_integer ["thing"] (defScope s_is_integer) := ⟨rfl, rfl, rfl, by decide +kernel, rfl, by decide +kernel, by decide +kernel⟩

abbrev s_is_index : Stmt := top 8
abbrev N_is_index : List Str := ["thing", "many"]
theorem sc_is_index : FnScope N_is_index ["thing", "many"] (defScope s_is_index) := ⟨rfl, rfl, rfl, by decide +kernel, rfl, by decide +kernel, by decide +kernel⟩

abbrev s_are_worths : Stmt := top 13
abbrev N_are_worths : List Str := ["thing", "part"]
theorem sc_are_worths : FnScope N_are_worths ["thing"] (defScope s_are_worths) := ⟨rfl, rfl, rfl, by decide +kernel, rfl, by decide +kernel, by decide +kernel⟩

abbrev s_is_content : Stmt := top 14
abbrev N_is_content : List Str := ["thing"]
theorem sc_is_content : FnScope N_is_content ["thing"] (defScope s_is_content) := ⟨rfl, rfl, rfl, by decide +kernel, rfl, by decide +kernel, by decide +kernel⟩

abbrev s_is_width : Stmt := top 21
abbrev N_is_width : List Str := ["thing"]
theorem sc_is_width : FnScope N_is_width ["thing"] (defScope s_is_width) := ⟨rfl, rfl, rfl, by decide +kernel, rfl, by decide +kernel, by decide +kernel⟩

abbrev s_is_step : Stmt := top 22
abbrev N_is_step : List Str := ["cells", "thing", "first", "worths"]
theorem sc_is_step : FnScope N_is_step ["cells", "thing"] (defScope s_is_step) := ⟨rfl, rfl, rfl, by decide +kernel, rfl, by decide +kernel, by decide +kernel⟩

abbrev s_are_steps : Stmt := top 27
abbrev N_are_steps : List Str := ["cells", "width", "thing", "step"]
theorem sc_are_steps : FnScope N_are_steps ["cells", "width", "thing"] (defScope s_are_steps) := ⟨rfl, rfl, rfl, by decide +kernel, rfl, by decide +kernel, by decide +kernel⟩

/-- the module's constants -/
structure Cst (K : PySem.W.Frag) (mg : Str → Option Value) : Prop where
  cells : ∃ t, mg "MOST_CELLS" = some (.int 24 t)
  steps : ∃ t, mg "MOST_STEPS" = some (.int 40 t)
  pieces : ∃ t, mg "MOST_PIECES" = some (.int 40 t)
  worths : ∃ a, mg "ALL_WORTHS" = some (.ref a) ∧ ∀ H, SqT K H a (ivs [0, 1, 2, 3, 4, 5, 6, 7])
def sp_is_integer (K : PySem.W.Frag) : Sp := fun vs H Q _ => ∃ x n, vs = [x] ∧ Ty K H x n ∧ Q (.bl (decide (n = "int"))) H
def sp_is_index (K : PySem.W.Frag) : Sp := fun vs H Q _ => ∃ (x : V) (m : Int) (n : String), vs = [x, .int m] ∧ Ty K H x n ∧ Q (.bl (idxB m x)) H
def sp_is_width (K : PySem.W.Frag) : Sp := fun vs H Q _ => ∃ x n, vs = [x] ∧ Ty K H x n ∧ Q (.bl (widthB x)) H
def sp_are_worths (K : PySem.W.Frag) : Sp := fun vs H Q _ => ∃ x, vs = [x] ∧ Th K H 1 x ∧ ∀ H', Same H H' → Q (.bl (worthsB H x)) H'
def sp_is_content (K : PySem.W.Frag) : Sp := fun vs H Q _ => ∃ x, vs = [x] ∧ Th K H 1 x ∧ ∀ H', Same H H' → Q (.bl (contentB H x)) H'
def sp_is_step (K : PySem.W.Frag) : Sp := fun vs H Q _ => ∃ (m : Int) (x : V), vs = [.int m, x] ∧ Th K H 2 x ∧ ∀ H', Same H H' → Q (.bl (stepB H m x)) H'
def sp_are_steps (K : PySem.W.Frag) (spr : Sp) : Sp := fun vs H Q _ => ∃ (m wd : Int) (x : V), vs = [.int m, .int wd, x] ∧ Th K H 3 x ∧ (stepsB H m x = false → ∀ H', Same H H' → Q (.bl false) H') ∧ (stepsB H m x = true → ∀ H', Same H H' → spr [.int wd, x] H' Q E0)
section
variable {P : Program} {w : World} {K : PySem.W.Frag} {mg : Str → Option Value} {base : Heap}
theorem ok_is_integer {f : Addr} {fd : FuncData} (F : Fun K "is_integer" "is_integer" s_is_integer f fd) (T : Txt mg) : FnOk P w K mg base CX0 1 f fd ["thing"] (sp_is_integer K) := by
  refine F.ok sc_is_integer (fun vs H Q E h => ?_) (fun cdv A outer s H vs Q E hr h => ?_)
  · obtain ⟨_, _, rfl, _⟩ := h
    rfl
  obtain ⟨x, n, rfl, t, k⟩ := h
  refine ⟨_, (pss_one (ps_ret (pe_and (pe_callB call_isi' (by rfl) T.isinstance (by decide +kernel) (pa_cons (pv 0) (pa_cons (pe_bltn (v := .ty "int") (by rfl) T.int (by decide +kernel) rfl) pa_nil))) (pe_one (pe_not (pe_callB call_isi' (by rfl) T.isinstance (by decide +kernel) (pa_cons (pv 0) (pa_cons (pe_bltn (v := .ty "bool") (by rfl) T.bool (by decide +kernel) rfl) pa_nil)))))))), ?_⟩
  refine ⟨_, rfl, x, n, "int", rfl, t, by decide, _, rfl, ?_⟩
  cases c : isB n "int" with
  | true =>
    refine ⟨_, rfl, x, n, "bool", rfl, t, by decide, _, rfl, ?_⟩
    rw [int_one n t.mem c]
    exact k
  | false =>
    rw [int_two n t.mem c] at k
    exact k
theorem ok_is_index {f : Addr} {fd : FuncData} (F : Fun K "is_index" "is_index" s_is_index f fd) (T : Txt mg) (c_is_integer : Cal P w K mg base 1 "is_integer" ["thing"] (sp_is_integer K)) : FnOk P w K mg base CX0 2 f fd ["thing", "many"] (sp_is_index K) := by
  refine F.ok sc_is_index (fun vs H Q E h => ?_) (fun cdv A outer s H vs Q E hr h => ?_)
  · obtain ⟨_, _, _, rfl, _⟩ := h
    rfl
  obtain ⟨x, m, n, rfl, t, k⟩ := h
  refine ⟨_, (pss_one (ps_ret (pe_and (pe_cal c_is_integer hr (pa_cons (pv 0) pa_nil)) (pe_one (pe_chain op_le op_lt pe_int (pv 0) (pv 1)))))), ?_⟩
  refine ⟨_, rfl, x, n, rfl, t, _, rfl, ?_⟩
  by_cases c : n = "int"
  · rw [decide_eq_true c]
    obtain ⟨i, rfl⟩ := ty_int t c
    refine ⟨_, rfl, _, _, rfl, rfl, _, rfl, ?_⟩
    have e : idxB m (.int i) = (decide (0 ≤ i) && decide (i < m)) := rfl
    rw [e] at k
    cases c2 : decide ((0 : Int) ≤ i) with
    | true =>
      rw [c2] at k
      exact ⟨_, rfl, _, _, rfl, rfl, k⟩
    | false =>
      rw [c2] at k
      exact k
  · rw [decide_eq_false c]
    rw [idx_not (no_int t c)] at k
    exact k
theorem ok_is_width {f : Addr} {fd : FuncData} (F : Fun K "is_width" "is_width" s_is_width f fd) (T : Txt mg) (C : Cst K mg) (c_is_integer : Cal P w K mg base 1 "is_integer" ["thing"] (sp_is_integer K)) : FnOk P w K mg base CX0 2 f fd ["thing"] (sp_is_width K) := by
  obtain ⟨tk, c_MOST_CELLS⟩ := C.cells
  refine F.ok sc_is_width (fun vs H Q E h => ?_) (fun cdv A outer s H vs Q E hr h => ?_)
  · obtain ⟨_, _, rfl, _⟩ := h
    rfl
  obtain ⟨x, n, rfl, t, k⟩ := h
  refine ⟨_, (pss_one (ps_ret (pe_and (pe_cal c_is_integer hr (pa_cons (pv 0) pa_nil)) (pe_one (pe_chain op_le op_le pe_int (pv 0) (pe_glob (v := .int 24) rfl c_MOST_CELLS ⟨_, rfl⟩)))))), ?_⟩
  refine ⟨_, rfl, x, n, rfl, t, _, rfl, ?_⟩
  by_cases c : n = "int"
  · rw [decide_eq_true c]
    obtain ⟨i, rfl⟩ := ty_int t c
    refine ⟨_, rfl, _, _, rfl, rfl, _, rfl, ?_⟩
    have e : widthB (.int i) = (decide (1 ≤ i) && decide (i ≤ 24)) := rfl
    rw [e] at k
    cases c2 : decide ((1 : Int) ≤ i) with
    | true =>
      rw [c2] at k
      exact ⟨_, _, rfl, rfl, k⟩
    | false =>
      rw [c2] at k
      exact k
  · rw [decide_eq_false c]
    rw [width_not (no_int t c)] at k
    exact k
theorem ok_are_worths {f : Addr} {fd : FuncData} (F : Fun K "are_worths" "are_worths" s_are_worths f fd) (T : Txt mg) (C : Cst K mg) (c_is_index : Cal P w K mg base 2 "is_index" ["thing", "many"] (sp_is_index K)) : FnOk P w K mg base CX0 3 f fd ["thing"] (sp_are_worths K) := by
  obtain ⟨aw, aw_m, aw_s⟩ := C.worths
  refine F.ok sc_are_worths (fun vs H Q E h => ?_) (fun cdv A outer s H vs Q E hr h => ?_)
  · obtain ⟨_, rfl, _⟩ := h
    rfl
  obtain ⟨x, rfl, th, k⟩ := h
  obtain ⟨n, t⟩ := th.ty
  refine ⟨_, (pss_cons (ps_cut (ps_if (PW.pt (pw_or (pt_not (pt_val (pe_callB call_isi' (by rfl) T.isinstance (by decide +kernel) (pa_cons (pv 0) (pa_cons (pe_bltn (v := .ty "tuple") (by rfl) T.tuple (by decide +kernel) rfl) pa_nil))))) (pw_or1 (pt_not (pt_truth (pv 0) (by intro _; rfl))))))
      (pss_one (ps_ret pe_bl))
      pss_nil))
    (pss_one (ps_ret (pe_callB (cr_all rfl) (by rfl) T.all (by decide +kernel) (pa_cons (pe_lc (own := [("part", 1)]) (g := (gName 1)) (tt := tYes) rfl sc_are_worths.nd (pi_tup (pv 0)) (blkOk_by (own := [("part", 1)]) (N := N_are_worths) (sc := defScope s_are_worths) (by decide +kernel)) (fun _ _ _ _ _ => pg_name (i := 1) sc_are_worths.nd rfl (Or.inl rfl)) (fun _ _ _ _ _ => pts_nil) (fun _ _ _ _ _ => (pe_cal c_is_index hr (pa_cons (pv 1) (pa_cons (pe_callB (r := rLenK K) call_lenK (by rfl) T.len (by decide +kernel) (pa_cons (pe_glob (v := .ref aw) rfl aw_m rfl) pa_nil)) pa_nil))))) pa_nil))))), ?_⟩
  refine ⟨fun σ' H' => ∃ a xs, x = .ref a ∧ H a = some (.tup xs) ∧ xs ≠ [] ∧ σ' = [some x, none] ∧ H = H', ?_, ?_⟩
  · refine ⟨_, rfl, x, n, "tuple", rfl, t, by decide, _, rfl, ?_⟩
    by_cases c : n = "tuple"
    · obtain ⟨a, xs, rfl, ha⟩ := ty_tup t c
      have e : (!isB n "tuple") = false := by rw [c]; decide
      rw [e]
      refine ⟨_, rfl, !xs.isEmpty, .inr (.inl ⟨xs, SqT.of ha, rfl⟩), ?_⟩
      cases xs with
      | nil =>
        have z := k H (Same.refl H)
        rw [worths_at ha] at z
        exact z
      | cons y ys => exact ⟨a, _, rfl, ha, by simp, rfl, rfl⟩
    · rw [tup_not n t.mem c]
      have z := k H (Same.refl H)
      rw [worths_not t c] at z
      exact z
  · rintro _ _ ⟨a, xs, rfl, ha, hne, rfl, rfl⟩
    obtain ⟨hl, hy⟩ := th.2 a xs rfl (.inl ha)
    refine ⟨_, rfl, a, rfl, ⟨xs, SqT.of ha⟩, fun D hD => lc_tup (K := K) (a := a) (xs := xs) (fun i H' => Same H H' ∧ H' D = some (.lst ((xs.take i).map fun y => V.bl (idxB 8 y)))) ?_ ?_ ?_ ?_⟩
    · exact ⟨same_new hD, upd_same⟩
    · rintro i H' _ ⟨s1, _⟩
      exact SqT.of (s1 _ _ ha)
    · rintro i y H' hx ⟨s1, h1⟩
      obtain ⟨n1, t1⟩ := (hy y (List.mem_of_getElem? hx)).ty
      have il : i < xs.length := (List.getElem?_eq_some_iff.mp hx).1
      refine ⟨rfl, _, rfl, aw, _, rfl, .inr (aw_s H'), y, 8, n1, rfl, t1.same s1, _, h1, ?_, same_mut s1 hD, ?_⟩
      · rw [List.length_map, List.length_take]
        exact szl (by omega)
      · rw [upd_same, List.take_add_one, hx]
        simp
    · rintro H' ⟨s1, h1⟩
      rw [List.take_length] at h1
      have z := k H' s1
      rw [worths_at ha] at z
      refine ⟨D, xs.map (idxB 8), rfl, SqL.of (by rw [h1, List.map_map]; rfl), ?_⟩
      have e : (!xs.isEmpty && xs.all (idxB 8)) = (xs.map (idxB 8)).all id := by
        cases xs with
        | nil => exact absurd rfl hne
        | cons y ys => simp
      rw [e] at z
      exact z
theorem ok_is_content {f : Addr} {fd : FuncData} (F : Fun K "is_content" "is_content" s_is_content f fd) (T : Txt mg) (C : Cst K mg) (c_are_worths : Cal P w K mg base 3 "are_worths" ["thing"] (sp_are_worths K)) : FnOk P w K mg base CX0 4 f fd ["thing"] (sp_is_content K) := by
  obtain ⟨tk, c_MOST_CELLS⟩ := C.cells
  refine F.ok sc_is_content (fun vs H Q E h => ?_) (fun cdv A outer s H vs Q E hr h => ?_)
  · obtain ⟨_, rfl, _⟩ := h
    rfl
  obtain ⟨x, rfl, th, k⟩ := h
  refine ⟨_, (pss_one (ps_ret (pe_and (pe_cal c_are_worths hr (pa_cons (pv 0) pa_nil)) (pe_one (pe_cmpR op_le (pe_callB call_len' (by rfl) T.len (by decide +kernel) (pa_cons (pv 0) pa_nil)) (pe_glob (v := .int 24) rfl c_MOST_CELLS ⟨_, rfl⟩) (nomark _)))))), ?_⟩
  refine ⟨_, rfl, x, rfl, th, fun H1 s1 => ⟨_, rfl, ?_⟩⟩
  have z := k H1 s1
  unfold contentB at z
  cases c : worthsB H x with
  | true =>
    obtain ⟨a, xs, rfl, ha, _⟩ := worths_true c
    rw [c, len_at ha] at z
    refine ⟨_, rfl, a, xs, rfl, .inr (s1 _ _ ha), _, _, rfl, rfl, ?_⟩
    have e : decide (((xs.length : Nat) : Int) ≤ 24) = decide (xs.length ≤ 24) := decide_eq_decide.mpr (by omega)
    show Q (V.bl (decide (((xs.length : Nat) : Int) ≤ 24))) H1
    rw [e]
    exact z
  | false =>
    rw [c] at z
    exact z
theorem ok_is_step {f : Addr} {fd : FuncData} (F : Fun K "is_step" "is_step" s_is_step f fd) (T : Txt mg) (c_is_index : Cal P w K mg base 2 "is_index" ["thing", "many"] (sp_is_index K)) (c_are_worths : Cal P w K mg base 3 "are_worths" ["thing"] (sp_are_worths K)) : FnOk P w K mg base CX0 4 f fd ["cells", "thing"] (sp_is_step K) := by
  refine F.ok sc_is_step (fun vs H Q E h => ?_) (fun cdv A outer s H vs Q E hr h => ?_)
  · obtain ⟨_, _, rfl, _⟩ := h
    rfl
  obtain ⟨m, x, rfl, th, k⟩ := h
  obtain ⟨n, t⟩ := th.ty
  refine ⟨_, (pss_cons (ps_if (pt_cmpR op_isN (pv 1) pe_non (nomark _))
      (pss_one (ps_ret pe_bl))
      pss_nil)
    (pss_cons (ps_cut (ps_if (PW.pt (pw_or (pt_not (pt_val (pe_callB call_isi' (by rfl) T.isinstance (by decide +kernel) (pa_cons (pv 1) (pa_cons (pe_bltn (v := .ty "tuple") (by rfl) T.tuple (by decide +kernel) rfl) pa_nil))))) (pw_or1 (pt_cmpR op_ne (pe_callB call_len' (by rfl) T.len (by decide +kernel) (pa_cons (pv 1) pa_nil)) pe_int (nomark _)))))
      (pss_one (ps_ret pe_bl))
      pss_nil))
    (pss_cons (ps_asg (pv 1) (pg_tup rfl (pgs_cons (pg_name (i := 2) sc_is_step.nd rfl (Or.inl rfl)) (pgs_cons (pg_name (i := 3) sc_is_step.nd rfl (Or.inl rfl)) pgs_nil))))
    (pss_one (ps_ret (pe_and (pe_cal c_is_index hr (pa_cons (pv 2) (pa_cons (pv 0) pa_nil))) (pe_and (pe_cal c_are_worths hr (pa_cons (pv 3) pa_nil)) (pe_one (pe_cmpR op_le (pe_op op_add (pv 2) (pe_callB call_len' (by rfl) T.len (by decide +kernel) (pa_cons (pv 3) pa_nil))) (pv 0) (nomark _)))))))))), ?_⟩
  refine ⟨_, rfl, rfl, _, rfl, ite2 (fun c0 => ?_) (fun c0 => ?_)⟩
  · have e : x = .non := of_decide_eq_true c0
    subst e
    exact k H (Same.refl H)
  have xn : x ≠ .non := fun e => c0 (decide_eq_true e)
  refine ⟨fun σ' H' => ∃ a f ws, x = .ref a ∧ H a = some (.tup [f, ws]) ∧ σ' = [some (.int m), some x, none, none] ∧ H = H', ?_, ?_⟩
  · refine ⟨_, rfl, x, n, "tuple", rfl, t, by decide, _, rfl, ?_⟩
    by_cases c : n = "tuple"
    · obtain ⟨a, xs, rfl, ha⟩ := ty_tup t c
      have e : (!isB n "tuple") = false := by rw [c]; decide
      rw [e]
      refine ⟨_, rfl, a, xs, rfl, .inr ha, rfl, _, rfl, ite2 (fun c => ?_) (fun c => ?_)⟩
      · have z := k H (Same.refl H)
        have e2 : stepB H m (.ref a) = false := by
          unfold stepB
          simp only [ha]
          split
          · rename_i f ws e3
            cases e3
            exact absurd c (by show ¬ (!decide (V.int 2 = V.int 2)) = true; decide)
          · rfl
        rw [e2] at z
        exact z
      · have hl : xs.length = 2 := by
          have c' : ¬ (!decide (V.int ((xs.length : Nat) : Int) = V.int 2)) = true := c
          by_cases q : xs.length = 2
          · exact q
          · refine absurd ?_ c'
            rw [decide_eq_false (fun e => q (by injection e; omega))]
            rfl
        match xs, hl with
        | [f, ws], _ => exact ⟨a, f, ws, rfl, ha, rfl, rfl⟩
    · rw [tup_not n t.mem c]
      have z := k H (Same.refl H)
      have e2 : stepB H m x = false := by
        have z2 := no_tup t c
        cases x with
        | non => exact absurd rfl xn
        | ref a =>
          unfold stepB
          simp only
          split
          · rename_i e3
            exact absurd e3 (z2 a _ rfl)
          · rfl
        | _ => rfl
      rw [e2] at z
      exact z
  · rintro _ _ ⟨a, f, ws, rfl, ha, rfl, rfl⟩
    obtain ⟨hl, hy⟩ := th.2 a _ rfl (.inl ha)
    obtain ⟨n1, t1⟩ := (hy f (List.mem_cons_self)).ty
    have th2 := hy ws (List.mem_cons_of_mem _ List.mem_cons_self)
    have e2 : stepB H m (.ref a) = (idxB m f && worthsB H ws && addB m (lenB H ws) f) := by
      unfold stepB
      simp only [ha]
    refine ⟨_, rfl, a, _, rfl, SqT.of ha, rfl, _, _, rfl, _, _, rfl, rfl, ?_⟩
    refine ⟨_, rfl, _, rfl, f, m, n1, rfl, t1, _, rfl, ?_⟩
    rw [e2] at k
    cases c1 : idxB m f with
    | false =>
      rw [c1] at k
      exact k H (Same.refl H)
    | true =>
      rw [c1] at k
      refine ⟨_, rfl, ws, rfl, th2, fun H1 s1 => ⟨_, rfl, ?_⟩⟩
      have z := k H1 s1
      cases c2 : worthsB H ws with
      | false =>
        rw [c2] at z
        exact z
      | true =>
        rw [c2] at z
        obtain ⟨b, ys, rfl, hb, _⟩ := worths_true c2
        rw [len_at hb] at z
        cases f with
        | int i => exact ⟨_, rfl, _, rfl, b, ys, rfl, .inr (s1 _ _ hb), _, _, rfl, rfl, _, rfl, _, _, rfl, rfl, z⟩
        | _ => cases c1
theorem ok_are_steps {f : Addr} {fd : FuncData} {spr : Sp} (F : Fun K "are_steps" "are_steps" s_are_steps f fd) (T : Txt mg) (c_is_step : Cal P w K mg base 4 "is_step" ["cells", "thing"] (sp_is_step K)) (c_is_room : Cal P w K mg base 3 "is_room" ["width", "steps"] spr) : FnOk P w K mg base CX0 5 f fd ["cells", "width", "thing"] (sp_are_steps K spr) := by
  refine F.ok sc_are_steps (fun vs H Q E h => ?_) (fun cdv A outer s H vs Q E hr h => ?_)
  · obtain ⟨_, _, _, rfl, _⟩ := h
    rfl
  obtain ⟨m, wd, x, rfl, th, k0, k1⟩ := h
  obtain ⟨n, t⟩ := th.ty
  refine ⟨_, (pss_cons (ps_cut (ps_if (PW.pt (pw_or (pt_not (pt_val (pe_callB call_isi' (by rfl) T.isinstance (by decide +kernel) (pa_cons (pv 2) (pa_cons (pe_bltn (v := .ty "list") (by rfl) T.list (by decide +kernel) rfl) pa_nil))))) (pw_or1 (pt_not (pt_val (pe_callB (cr_all rfl) (by rfl) T.all (by decide +kernel) (pa_cons (pe_lc (own := [("step", 3)]) (g := (gName 3)) (tt := tYes) rfl sc_are_steps.nd (pi_list (pv 2)) (blkOk_by (own := [("step", 3)]) (N := N_are_steps) (sc := defScope s_are_steps) (by decide +kernel)) (fun _ _ _ _ _ => pg_name (i := 3) sc_are_steps.nd rfl (Or.inl rfl)) (fun _ _ _ _ _ => pts_nil) (fun _ _ _ _ _ => (pe_cal c_is_step hr (pa_cons (pv 0) (pa_cons (pv 3) pa_nil))))) pa_nil)))))))
      (pss_one (ps_ret pe_bl))
      pss_nil))
    (pss_one (ps_ret (pe_cal c_is_room hr (pa_cons (pv 1) (pa_cons (pv 2) pa_nil)))))), ?_⟩
  refine ⟨fun σ' H' => stepsB H m x = true ∧ σ' = [some (.int m), some (.int wd), some x, none] ∧ Same H H', ?_, ?_⟩
  · refine ⟨_, rfl, x, n, "list", rfl, t, by decide, _, rfl, ?_⟩
    by_cases c : n = "list"
    · obtain ⟨a, xs, rfl, ha⟩ := ty_lst t c
      obtain ⟨hl, hy⟩ := th.2 a xs rfl (.inr ha)
      have e : isB n "list" = true := by rw [c]; decide
      rw [e]
      refine ⟨_, rfl, a, rfl, ⟨xs, SqL.of ha⟩, fun D hD => lc_list (K := K) (a := a) (xs := xs) (fun i H' => Same H H' ∧ H' D = some (.lst ((xs.take i).map fun y => V.bl (stepB H m y)))) ?_ ?_ ?_ ?_⟩
      · exact ⟨same_new hD, upd_same⟩
      · rintro i H' _ ⟨s1, _⟩
        exact SqL.of (s1 _ _ ha)
      · rintro i y H' hx ⟨s1, h1⟩
        have th2 := hy y (List.mem_of_getElem? hx)
        have il : i < xs.length := (List.getElem?_eq_some_iff.mp hx).1
        refine ⟨rfl, _, rfl, _, rfl, m, y, rfl, th2.same s1, fun H2 s2 => ⟨_, s2 _ _ h1, ?_, same_mut (s1.trans s2) hD, ?_⟩⟩
        · rw [List.length_map, List.length_take]
          exact szl (by omega)
        · rw [upd_same, List.take_add_one, hx, step_same th2 s1]
          simp
      · rintro H' ⟨s1, h1⟩
        rw [List.take_length] at h1
        have e2 : stepsB H m (.ref a) = (xs.map (stepB H m)).all id := by
          unfold stepsB
          simp only [ha]
          simp
        refine ⟨D, xs.map (stepB H m), rfl, SqL.of (by rw [h1, List.map_map]; rfl), ?_⟩
        rw [← e2]
        refine ⟨_, rfl, ?_⟩
        cases e3 : stepsB H m (.ref a) with
        | true => exact iteF ⟨rfl, rfl, s1⟩
        | false => exact iteT (k0 e3 H' s1)
    · rw [lst_not n t.mem c]
      have e2 : stepsB H m x = false := by
        cases x with
        | ref a =>
          unfold stepsB
          simp only
          split
          · rename_i e3
            exact absurd (ty_is_lst t e3) c
          · rfl
        | _ => rfl
      exact k0 e2 H (Same.refl H)
  · rintro _ H1 ⟨e3, rfl, s1⟩
    exact ⟨_, rfl, _, rfl, k1 e3 H1 s1⟩
end
end Af

set_option Elab.async false
set_option linter.all false
set_option maxRecDepth 100000
namespace Af
open PySem PySem.Calls PySem.Spec PyProof.Rows L2
/-! == and != of an instance whose class has its own __eq__ and no __ne__ -/
section
variable {M : Model} {prog : Program} {w : World} {A : Around} {E : Value → Shared → Prop} {s : Shared} {K : PySem.W.Frag} {x C L f : Addr} {ox : Obj} {od : Option Obj} {b tb : Value} {h₀ : Heap} {m : Str → Option Value}
theorem ifBound_ne {args : List Value} {Q : Option Value → Shared → Prop} (X : K.In s.heap) (I : PySem.W.InstAt s.heap x ox C od) (hs : PySem.W.findIn K (.ref C) "__ne__" = some (some (.builtin "object.__ne__")))
    (h : wpAny M A (call (.builtin "object.__ne__") (.ref x :: args)) (fun v => Q (some v)) E s) : wpAny M A (callSpecialIfBound? (.ref x) "__ne__" args) Q E s := by
  simp only [callSpecialIfBound?, bindSpecialIfBound?]
  refine wpAny_holding (wpAny_bind (wpAny_bind (wpAny_bind (I.type.here ((PySem.W.looks_findIn X hs).here ?_)))))
  refine wpAny_bind (wpAny_askSetting (wpAny_ite ?_))
  have last : wpAny M A (call (.builtin "object.__ne__") ([.ref x] ++ args) >>= fun v => pure (some v)) Q E s := wpAny_bind (wpAny_mono h (fun _ _ q => wpAny_pure q) fun _ _ q => q)
  split
  · exact wpAny_bind (wpAny_of_eq (F.cmp_object.ne.bind _) (wpAny_pure (by exact last)))
  · exact wpAny_tryCatch (wpAny_bind (wpAny_of_eq (F.cmp_object.ne.bind _) (wpAny_pure (by exact last))))
theorem entry_ne {Q : Fin → Shared → Prop} (hu : A.units < cLine) (X : K.In s.heap) (I : PySem.W.InstAt s.heap x ox C od) (hs : PySem.W.findIn K (.ref C) "__eq__" = some (some (.ref f))) (hf : PySem.W.isFn K (.ref f) = true)
    (h : wpAny (model prog w) A (call (.ref f) [.ref x, b]) (fun v s' => ∃ r, v = .bool r ∧ Q (.done (.ret (.bool (!r)))) s') E s) :
    wpAny (model prog w) A (Builtin.«object.__ne__» ⟨[.ref x, b], []⟩) Q E s := by
  unfold Builtin.«object.__ne__»
  repeat (first
    | with_reducible refine wpAny_cRoomFor hu ?_
    | (refine wpAny_bind (m := callSpecialIfBound? (.ref x) (Str.ofString "__eq__") [b])
        (PySem.W.ifBound_K X I hs hf (wpAny_mono h (fun r s' hr => by
          obtain ⟨b, rfl, hq⟩ := hr
          repeat (first | exact hq | exact wpAny_pure hq | exact wpAny_truthy_bool hq | (refine wpAny_bind (m := truthy (.bool _)) (wpAny_truthy_bool ?_)) | wp_step)) fun _ _ e => e)))
    | wp_step)
theorem rc_ne {Q : Value → Shared → Prop} (hu : A.units + 1 < cLine) (Y : PyProof.Rows.Fr h₀ L s.heap m) (X₀ : K.In h₀) (I : PySem.W.InstAt s.heap x ox C od) (hb : PySem.W.Looks (model prog w) s.heap (typeOf b) tb) (hn : PySem.W.notFirst K C tb = true)
    (hs : PySem.W.findIn K (.ref C) "__eq__" = some (some (.ref f))) (hf : PySem.W.isFn K (.ref f) = true) (hne : PySem.W.findIn K (.ref C) "__ne__" = some (some (.builtin "object.__ne__"))) (hm : PySem.W.mroIn K C (.type "object") = some true)
    (h : wpAny (model prog w) A.in1 (call (.ref f) [.ref x, b]) (fun v s' => ∃ r, v = .bool r ∧ Q (.bool (!r)) s') E s) : wpAny (model prog w) A (richCompare .NotEq (.ref x) b) Q E s := by
  have X := X₀.keeps Y.keep
  have one : wpAny (model prog w) A (tryCompare (.ref x) "__ne__" b) (fun r s' => ∃ v, r = some v ∧ Q v s') E s := by
    unfold tryCompare
    refine wpAny_bind (ifBound_ne X I hne (wpAny_call (codeAny_call_builtin F.cmp_object.ne.plain F.cmpEntry_ne (PySem.W.check_slot F.cmpKind_ne F.cmpSplit_ne (I.type.andThen (PySem.W.looks_mroIn X hm)) (F.cmpArgs_ne _ _) (entry_ne (A := A.in1) hu X I hs hf (wpAny_mono h (fun v s' z => ?_) fun _ _ e => e))))))
    obtain ⟨r, rfl, hq⟩ := z
    exact ⟨r, rfl, wpAny_pure ⟨_, rfl, hq⟩⟩
  unfold richCompare
  simp only [oneThing_ref]
  refine wpAny_holding (wpAny_bind (wpAny_cRoomFor (Nat.lt_of_succ_lt hu) ?_))
  refine wpAny_bind (I.type.here (wpAny_bind (hb.here ?_)))
  have go : wpAny (model prog w) A (tryCompare (.ref x) "__ne__" b) (fun r s' => ∃ v, r = some v ∧ Q v s') E s := one
  split
  · rename_i q
    have e : PySem.W.subIn K tb (.ref C) = some false := by
      rcases Bool.or_eq_true_iff.mp hn with e | e
      · rw [beq_iff_eq.mp e] at q; simp at q
      · exact beq_iff_eq.mp e
    refine wpAny_bind ((PySem.W.looks_subIn X e).here ?_)
    simp only [Bool.false_eq_true, if_false]
    refine wpAny_bind (wpAny_mono one (fun r s' z => ?_) fun _ _ e => e)
    obtain ⟨v, rfl, hq⟩ := z
    exact wpAny_pure hq
  · refine wpAny_bind (wpAny_pure ?_)
    simp only [Bool.false_eq_true, if_false]
    refine wpAny_bind (wpAny_mono one (fun r s' z => ?_) fun _ _ e => e)
    obtain ⟨v, rfl, hq⟩ := z
    exact wpAny_pure hq
end
/-- what is asked of the class at C for its own == -/
structure OwnEqC (K : PySem.W.Frag) (C f : Addr) : Prop where
  eq : PySem.W.findIn K (.ref C) "__eq__" = some (some (.ref f))
  fn : PySem.W.isFn K (.ref f) = true
  ne : PySem.W.findIn K (.ref C) "__ne__" = some (some (.builtin "object.__ne__"))
  ob : PySem.W.mroIn K C (.type "object") = some true
/-- x == y where x is an instance: what the own __eq__ promises, which answers a bool -/
def rOwnEq (K : PySem.W.Frag) (C : Addr) (sp : Sp) : R2 := fun x y H Q => ∃ a dx fs t, x = .ref a ∧ H a = some (.ins C dx fs) ∧ TyX K H y t ∧ PySem.W.notFirst K C t = true ∧ sp [x, y] H (fun v H' => ∃ b, v = .bl b ∧ Q (.bl b) H') E0
def rOwnNe (K : PySem.W.Frag) (C : Addr) (sp : Sp) : R2 := fun x y H Q => ∃ a dx fs t, x = .ref a ∧ H a = some (.ins C dx fs) ∧ TyX K H y t ∧ PySem.W.notFirst K C t = true ∧ sp [x, y] H (fun v H' => ∃ b, v = .bl b ∧ Q (.bl (!b)) H') E0
section
variable {X : Cx} {C f : Addr} {fd : FuncData} {ps : List Str} {sp : Sp} {k n : Nat}
theorem own_run (G : FnOk X.prog X.w X.K X.mg X.base CX0 k f fd ps sp) (hb : Binds X.K fd ps []) {A : Around} (hr : Room k A) (hA : A.frames = X.A.frames) {pins : List (Addr × Obj)} {s : Shared} {σ : L2.St} {H : Hp} {x y : V} {v u : Value} (I : Inv X pins σ H s) (rx : RelV x v) (ry : RelV y u)
    {Q : VK} (hq : sp [x, y] H Q E0) : wpAny (model X.prog X.w) A (call (.ref f) [v, u]) (fun r s' => EP X pins σ Q r s') X.xe s := by
  have e0 : Env0 X.prog X.w X.K X.mg X.base A X.stack s H := by
    have e := I.env0
    exact ⟨by rw [hA]; exact e.frames, e.mod, e.bs, e.bsz, e.funs, e.frf, e.hok, e.bare⟩
  have hl := G.len _ _ _ _ hq
  refine wpAny_call (codeAny_mono (G.run A X.stack s H ⟨[v, u], []⟩ [v, u] [x, y] _ E0 hr e0 (by
    have := hb s [v, u] I.kIn (by simpa using hl)
    simpa using this) (.cons rx (.cons ry .nil)) hq) fun r s' z => ?_)
  cases r with
  | error e => exact pass0 pins σ H s e s' I z
  | ok fl =>
    cases fl with
    | ret w => exact I.after z
    | next => exact False.elim z
    | brk => exact False.elim z
    | cont => exact False.elim z
theorem op_ownEq (O : OwnEqC X.K C f) (G : FnOk X.prog X.w X.K X.mg X.base CX0 k f fd ps sp) (hb : Binds X.K fd ps []) (hr : Room n X.A) (hkn : k ≤ n := by decide) : OpR X (compareOp .Eq) (rOwnEq X.K C sp) := by
  intro pins s σ H x y v u Q I rx ry h
  obtain ⟨a, dx, fs, t, rfl, ha, ty, nf, q⟩ := h
  cases (show v = Value.ref a from rx)
  obtain ⟨mA, J, _⟩ := ins_get I.hok ha
  obtain ⟨od, J, _⟩ := J.look
  obtain ⟨P, Z, p, _⟩ := kit_of I ry ty
  obtain ⟨m, hF⟩ := I.fr
  have lk := Z.ty (model X.prog X.w) s.heap I.kIn p
  show wpAny (model X.prog X.w) X.A (richCompare .Eq (.ref a) u) (EP X pins σ Q) X.xe s
  refine PySem.W.cmp_K (op := .Eq) (tb := t) hr.units0 hF I.ok.mod.kin J lk nf O.eq O.fn ?_
  refine wpAny_mono (own_run G hb (hr.mono hkn) rfl (x := .ref a) (v := .ref a) I rfl ry q) (fun r s' z => ?_) fun _ _ z => z
  obtain ⟨v', H', I', rv, b, e, z⟩ := z
  subst e
  cases (show r = Value.bool b from rv)
  exact ⟨.bl b, H', I', rfl, z⟩
theorem op_ownNe (O : OwnEqC X.K C f) (G : FnOk X.prog X.w X.K X.mg X.base CX0 k f fd ps sp) (hb : Binds X.K fd ps []) (hr : Room n X.A) (hkn : k + 1 ≤ n := by decide) : OpR X (compareOp .NotEq) (rOwnNe X.K C sp) := by
  intro pins s σ H x y v u Q I rx ry h
  obtain ⟨a, dx, fs, t, rfl, ha, ty, nf, q⟩ := h
  cases (show v = Value.ref a from rx)
  obtain ⟨mA, J, _⟩ := ins_get I.hok ha
  obtain ⟨od, J, _⟩ := J.look
  obtain ⟨P, Z, p, _⟩ := kit_of I ry ty
  obtain ⟨m, hF⟩ := I.fr
  have lk := Z.ty (model X.prog X.w) s.heap I.kIn p
  show wpAny (model X.prog X.w) X.A (richCompare .NotEq (.ref a) u) (EP X pins σ Q) X.xe s
  have hr' : Room (k + 1) X.A := hr.mono hkn
  refine rc_ne (tb := t) hr'.in1.units0 hF I.ok.mod.kin J lk nf O.eq O.fn O.ne O.ob ?_
  refine wpAny_mono (own_run G hb hr'.in1 rfl (x := .ref a) (v := .ref a) I rfl ry q) (fun r s' z => ?_) fun _ _ z => z
  obtain ⟨v', H', I', rv, b, e, z⟩ := z
  subst e
  cases (show r = Value.bool b from rv)
  exact ⟨b, rfl, .bl (!b), H', I', rfl, z⟩
end
end Af

set_option Elab.async false
set_option linter.all false
set_option maxRecDepth 100000
set_option maxHeartbeats 4000000
namespace Af
open PySem L2
abbrev s_is_room : Stmt := top 23
abbrev N_is_room : List Str := ["width", "steps"]
theorem sc_is_room : FnScope N_is_room ["width", "steps"] (defScope s_is_room) := ⟨rfl, rfl, rfl, by decide +kernel, rfl, by decide +kernel, by decide +kernel⟩

abbrev s_Plan___init : Stmt := inClass (top 28) 0
abbrev N_Plan___init : List Str := ["self", "base", "width", "steps", "epochs", "piece"]
theorem sc_Plan___init : FnScope N_Plan___init ["self", "base", "width", "steps"] (defScope s_Plan___init) := ⟨rfl, rfl, rfl, by decide +kernel, rfl, by decide +kernel, by decide +kernel⟩

/-- what the text has written of the class -/
structure PlanC (K : PySem.W.Frag) (mg : Str → Option Value) (C : Addr) : Prop where
  cl : Cls K C
  nB : NoAttr K C "_base"
  nW : NoAttr K C "_width"
  nS : NoAttr K C "_steps"
  nP : NoAttr K C "_pieces"
  nE : NoAttr K C "_piece_epochs"
  nN : NoAttr K C "_epochs"
  mgC : mg "Plan" = some (.ref C)
  is1 : PySem.W.kitOne K (.ref C) (.ref C) = some true
  is0 : ∀ n ∈ tyNames, PySem.W.kitOne K (.type n) (.ref C) = some false
  first : ∀ n ∈ tyNames, PySem.W.notFirst K C (.type n) = true
  ha : PySem.W.findIn K (.ref C) "__class__" = some (some (.builtin "object.__class__"))
  hn : PySem.W.specialIn K (.builtin "object.__class__") "__get__" = some (some (.builtin "getset_descriptor.__get__"))
  htk : PySem.W.takesIn K (.builtin "object.__class__") = some true
  hm : PySem.W.mroIn K C (.type "object") = some true
theorem PlanC.ty {K : PySem.W.Frag} {mg : Str → Option Value} {C a dx : Addr} {fs : List (Str × V)} {H : Hp} (T : PlanC K mg C) (h : H a = some (.ins C dx fs)) : TyX K H (.ref a) (.ref C) := .base (.ins h T.cl T.ha T.hn T.htk T.hm)
/-- the parts of a plan that the program takes -/
structure OkP (pl : Pl) : Prop where
  c1 : 1 ≤ pl.cs.length
  c24 : pl.cs.length ≤ 24
  cb : ∀ z ∈ pl.cs, 0 ≤ z ∧ z < 8
  w1 : 1 ≤ pl.w
  w24 : pl.w ≤ 24
  st : ∀ x ∈ pl.sts, OkS pl.cs.length x
  sl : pl.sts.length ≤ 40
  pc : (allP pl.w 0 pl.sts).length ≤ 40
def sp_roomX : Sp := fun vs H Q _ => ∃ (wd : Int) (a : Addr) (xs : List V) (sts : List Stp), vs = [.int wd, .ref a] ∧ H a = some (.lst xs) ∧ Paired (StepV H) xs sts ∧ 0 < wd ∧ xs.length ≤ 40 ∧ (∀ x ∈ sts, OkS 24 x) ∧ (allP wd 0 sts).length ≤ 40 ∧
  ∀ H', Same H H' → Q (.bl true) H'
/-- the epoch of each piece -/
def pieceE (sts : List Stp) (ps : List (Int × (Int × List Int))) : List Int := ps.map fun p => ((eps 0 sts)[p.1.toNat]?).getD 0
theorem allP_in {w : Int} : ∀ {l : List Stp} {i : Nat} {p : Int × (Int × List Int)}, p ∈ allP w i l → ∃ j : Nat, p.1 = (j : Int) ∧ i ≤ j ∧ j < i + l.length
  | [], _, _, h => by cases h
  | a :: l, i, p, h => by
    have h' : p ∈ oneP w i a ++ allP w (i + 1) l := h
    rcases List.mem_append.mp h' with h | h
    · cases a with
      | none => cases h
      | some fw =>
        obtain ⟨f, ws⟩ := fw
        obtain ⟨y, _, rfl⟩ := List.mem_map.mp h
        exact ⟨i, rfl, Nat.le_refl _, by rw [List.length_cons]; omega⟩
    · obtain ⟨j, h1, h2, h3⟩ := allP_in h
      exact ⟨j, h1, by omega, by rw [List.length_cons]; omega⟩
def sp_initX (C : Addr) : Sp := fun vs H Q _ => ∃ (x dx ca sa : Addr) (pl : Pl) (xs : List V), vs = [.ref x, .ref ca, .int pl.w, .ref sa] ∧ H x = some (.ins C dx []) ∧ H ca = some (.tup (ivs pl.cs)) ∧ H sa = some (.lst xs) ∧ Paired (StepV H) xs pl.sts ∧ OkP pl ∧
  ∀ H' (sl ql el : Addr) (fs : List (Str × V)) (ys : List V), (∀ a o, a ≠ x → H a = some o → H' a = some o) → H sl = none → H ql = none → H el = none → H' x = some (.ins C dx fs) → fs.lookup ("_base" : Str) = some (.ref ca) → fs.lookup ("_width" : Str) = some (.int pl.w) → fs.lookup ("_steps" : Str) = some (.ref sl) →
    fs.lookup ("_pieces" : Str) = some (.ref ql) → fs.lookup ("_piece_epochs" : Str) = some (.ref el) → fs.lookup ("_epochs" : Str) = some (.int ((bars pl.sts : Nat) + 1)) → fs.lookup ("epoch_of" : Str) = none → H' sl = some (.lst xs) → H' ql = some (.lst ys) → Paired (PieceA H') ys (allP pl.w 0 pl.sts) → H' el = some (.lst (ivs (pieceE pl.sts (allP pl.w 0 pl.sts)))) → Q .non H'
theorem all_idx {ns : List Int} {m : Int} (h : ∀ z ∈ ns, 0 ≤ z ∧ z < m) : (ivs ns).all (idxB m) = true := by
  refine List.all_eq_true.mpr fun x hx => ?_
  obtain ⟨z, hz, rfl⟩ := List.mem_map.mp hx
  obtain ⟨a, b⟩ := h z hz
  show (decide (0 ≤ z) && decide (z < m)) = true
  rw [decide_eq_true a, decide_eq_true b]
  rfl
theorem ivs_ne {ns : List Int} (h : ns ≠ []) : (!(ivs ns).isEmpty) = true := by
  cases ns with
  | nil => exact absurd rfl h
  | cons a b => rfl
theorem th_ints {K : PySem.W.Frag} {H : Hp} {a : Addr} {ns : List Int} (h : H a = some (.tup (ivs ns))) (hl : ns.length ≤ 100000) {d : Nat} : Th K H (d + 1) (.ref a) := by
  refine th_tup h (by rw [ivs_len]; exact hl) fun y hy => ?_
  obtain ⟨z, _, rfl⟩ := List.mem_map.mp hy
  exact th_int
theorem content_ok {H : Hp} {a : Addr} {ns : List Int} (h : H a = some (.tup (ivs ns))) (c1 : 1 ≤ ns.length) (c2 : ns.length ≤ 24) (cb : ∀ z ∈ ns, 0 ≤ z ∧ z < 8) : contentB H (.ref a) = true := by
  unfold contentB
  rw [worths_at h, len_at h, ivs_ne (fun z => by rw [z] at c1; exact absurd c1 (by decide)), all_idx cb, ivs_len, decide_eq_true c2]
  rfl
theorem width_ok {w : Int} (h1 : 1 ≤ w) (h2 : w ≤ 24) : widthB (.int w) = true := by
  show (decide (1 ≤ w) && decide (w ≤ 24)) = true
  rw [decide_eq_true h1, decide_eq_true h2]
  rfl
theorem step_ok {H : Hp} {x : V} {st : Stp} {n : Nat} (h : StepV H x st) (o : OkS n st) : stepB H (n : Int) x = true := by
  cases st with
  | none =>
    have e : x = .non := h
    subst e
    rfl
  | some fw =>
    obtain ⟨f, ws⟩ := fw
    obtain ⟨a, b, rfl, h1, h2⟩ := h
    obtain ⟨o1, o2, o3, o4⟩ := o
    have hp : 0 < ws.length := List.length_pos_iff.mpr o2
    have e : stepB H (n : Int) (.ref a) = (idxB (n : Int) (.int f) && worthsB H (.ref b) && addB (n : Int) (lenB H (.ref b)) (.int f)) := by
      unfold stepB
      simp only [h1]
    rw [e, worths_at h2, len_at h2, ivs_ne o2, all_idx o4, ivs_len]
    show ((decide (0 ≤ f) && decide (f < (n : Int))) && (true && true) && decide (f + (ws.length : Int) ≤ (n : Int))) = true
    rw [decide_eq_true o1, decide_eq_true o3, decide_eq_true (by omega)]
    rfl
theorem th_step {K : PySem.W.Frag} {H : Hp} {x : V} {st : Stp} {n : Nat} (h : StepV H x st) (o : OkS n st) (hn : n ≤ 1000) : Th K H 2 x := by
  cases st with
  | none =>
    have e : x = .non := h
    subst e
    exact th_non
  | some fw =>
    obtain ⟨f, ws⟩ := fw
    obtain ⟨a, b, rfl, h1, h2⟩ := h
    obtain ⟨o1, o2, o3, o4⟩ := o
    refine th_tup h1 (by show 2 ≤ 100000; decide) fun y hy => ?_
    simp only [List.mem_cons, List.not_mem_nil, or_false] at hy
    rcases hy with rfl | rfl
    · exact th_int
    · exact th_ints h2 (by omega)
theorem paired_mem {α β : Type} {F : α → β → Prop} : ∀ {a : List α} {b : List β} {x : α}, Paired F a b → x ∈ a → ∃ y, y ∈ b ∧ F x y
  | _, _, _, .nil, h => by simp at h
  | _, _, x, .cons r t, h => by
    rcases List.mem_cons.mp h with rfl | h
    · exact ⟨_, List.mem_cons_self, r⟩
    · obtain ⟨y, h1, h2⟩ := paired_mem t h
      exact ⟨y, List.mem_cons_of_mem _ h1, h2⟩
theorem steps_ok {H : Hp} {a : Addr} {xs : List V} {sts : List Stp} {n : Nat} (h : H a = some (.lst xs)) (hst : Paired (StepV H) xs sts) (ok : ∀ x ∈ sts, OkS n x) : stepsB H (n : Int) (.ref a) = true := by
  have e : stepsB H (n : Int) (.ref a) = xs.all (stepB H (n : Int)) := by
    unfold stepsB
    simp only [h]
  rw [e]
  refine List.all_eq_true.mpr fun x hx => ?_
  obtain ⟨st, h1, h2⟩ := paired_mem hst hx
  exact step_ok h2 (ok st h1)
theorem th_steps {K : PySem.W.Frag} {H : Hp} {a : Addr} {xs : List V} {sts : List Stp} {n : Nat} (h : H a = some (.lst xs)) (hl : xs.length ≤ 100000) (hst : Paired (StepV H) xs sts) (ok : ∀ x ∈ sts, OkS n x) (hn : n ≤ 1000) : Th K H 3 (.ref a) := by
  refine th_lst h hl fun y hy => ?_
  obtain ⟨st, h1, h2⟩ := paired_mem hst hy
  exact th_step h2 (ok st h1) hn
theorem ok24 {n : Nat} {st : Stp} (h : OkS n st) (hn : n ≤ 24) : OkS 24 st := by
  cases st with
  | none => exact True.intro
  | some fw =>
    obtain ⟨f, ws⟩ := fw
    obtain ⟨o1, o2, o3, o4⟩ := h
    exact ⟨o1, o2, by omega, o4⟩
/-- fields that are set one after the other -/
def fs6 (ca : Addr) (w : Int) (sl pl pe : Addr) (n : V) : List (Str × V) := putF "_epochs" n (putF "_piece_epochs" (.ref pe) (putF "_pieces" (.ref pl) (putF "_steps" (.ref sl) (putF "_width" (.int w) (putF "_base" (.ref ca) [])))))
/-- all but the object at x stands -/
def Ko (x : Addr) (H H' : Hp) : Prop := ∀ a o, a ≠ x → H a = some o → H' a = some o
theorem Ko.same {x : Addr} {H H1 H2 : Hp} (k : Ko x H H1) (s : Same H1 H2) : Ko x H H2 := fun a o n e => s _ _ (k a o n e)
theorem Ko.upd {x : Addr} {H H1 : Hp} {o : HO} (k : Ko x H H1) : Ko x H (L2.upd H1 x o) := fun a u n e => by
  rw [upd_ne n]
  exact k a u n e
theorem steps_ko {x C dx : Addr} {fs : List (Str × V)} {H H' : Hp} (k : Ko x H H') (hx : H x = some (.ins C dx fs)) {xs : List V} {sts : List Stp} (h : Paired (StepV H) xs sts) : Paired (StepV H') xs sts := L2.Paired.mapP h fun v st z => by
  have nt : ∀ {a : Addr} {l : List V}, H a = some (.tup l) → H' a = some (.tup l) := fun {a l} e => k a _ (ne_of e hx (by intro q; cases q)) e
  cases st with
  | none => exact z
  | some fw =>
    obtain ⟨f, ws⟩ := fw
    obtain ⟨a, b, e, h1, h2⟩ := z
    exact ⟨a, b, e, nt h1, nt h2⟩
theorem int_in {ns : List Int} {j : Nat} (h : j < ns.length) : ∃ z : Int, (ivs ns)[j]? = some (.int z) := ⟨_, ivs_get h⟩
theorem len_put {f : Str} {v : V} {fs : List (Str × V)} {n : Nat} (h : fs.length ≤ n) : (putF f v fs).length ≤ n + 1 := Nat.le_trans (length_putF f v fs) (Nat.succ_le_succ h)
theorem put_at {f : Str} {v : V} {fs : List (Str × V)} : (putF f v fs).lookup f = some v := by
  rw [lookup_putF, if_pos rfl]
theorem put_no {f g : Str} {v u : V} {fs : List (Str × V)} (h : fs.lookup g = some u) (n : ¬ g = f := by decide +kernel) : (putF f v fs).lookup g = some u := by
  rw [lookup_putF, if_neg n]
  exact h
section
variable {P : Program} {w : World} {K : PySem.W.Frag} {mg : Str → Option Value} {base : Heap}
theorem ok_roomX {f : Addr} {fd : FuncData} (F : Fun K "is_room" "is_room" s_is_room f fd) (T : Txt mg) (C : Cst K mg) (c_pieces_of : Cal P w K mg base 2 "_pieces_of" ["width", "steps"] sp_piecesX) : FnOk P w K mg base CX0 3 f fd ["width", "steps"] sp_roomX := by
  obtain ⟨tk1, c_MOST_STEPS⟩ := C.steps
  obtain ⟨tk2, c_MOST_PIECES⟩ := C.pieces
  refine F.ok sc_is_room (fun vs H Q E h => ?_) (fun cdv A outer s H vs Q E hr h => ?_)
  · obtain ⟨_, _, _, _, rfl, _⟩ := h
    rfl
  obtain ⟨wd, a, xs, sts, rfl, ha, hst, w0, xl, ok, tl, k⟩ := h
  refine ⟨_, (pss_one (ps_ret (pe_and (pe_cmpR op_le (pe_callB call_len' (by rfl) T.len (by decide +kernel) (pa_cons (pv 1) pa_nil)) (pe_glob (v := .int 40) rfl c_MOST_STEPS ⟨_, rfl⟩) (nomark _)) (pe_one (pe_cmpR op_le (pe_callB call_len' (by rfl) T.len (by decide +kernel) (pa_cons (pe_cal c_pieces_of hr (pa_cons (pv 0) (pa_cons (pv 1) pa_nil))) pa_nil)) (pe_glob (v := .int 40) rfl c_MOST_PIECES ⟨_, rfl⟩) (nomark _)))))), ?_⟩
  refine ⟨_, rfl, a, xs, rfl, .inl ha, _, _, rfl, rfl, _, rfl, ?_⟩
  have e1 : decide (((xs.length : Nat) : Int) ≤ 40) = true := decide_eq_true (by omega)
  rw [e1]
  refine iteT ⟨_, rfl, _, rfl, wd, a, xs, sts, rfl, ha, hst, w0, by omega, ok, fun l H1 ys s1 hl h1 p1 => ?_⟩
  have yl := paired_len p1
  refine ⟨l, ys, rfl, .inl h1, _, _, rfl, rfl, ?_⟩
  have e2 : decide (((ys.length : Nat) : Int) ≤ 40) = true := decide_eq_true (by omega)
  show Q (V.bl (decide (((ys.length : Nat) : Int) ≤ 40))) H1
  rw [e2]
  exact k H1 s1
theorem ok_initX {f C : Addr} {fd : FuncData} (F : Fun K "__init__" "Plan.__init__" s_Plan___init f fd) (T : Txt mg) (TC : PlanC K mg C)
    (c_is_content : Cal P w K mg base 4 "is_content" ["thing"] (sp_is_content K)) (c_is_width : Cal P w K mg base 2 "is_width" ["thing"] (sp_is_width K)) (c_are_steps : Cal P w K mg base 5 "are_steps" ["cells", "width", "thing"] (sp_are_steps K sp_roomX))
    (c_epochs_of : Cal P w K mg base 1 "_epochs_of" ["steps"] sp_epochsX) (c_pieces_of : Cal P w K mg base 2 "_pieces_of" ["width", "steps"] sp_piecesX) :
    FnOk P w K mg base CX0 6 f fd ["self", "base", "width", "steps"] (sp_initX C) := by
  refine F.ok sc_Plan___init (fun vs H Q E h => ?_) (fun cdv A outer s H vs Q E hr h => ?_)
  · obtain ⟨_, _, _, _, _, _, rfl, _⟩ := h
    rfl
  obtain ⟨x, dx, ca, sa, pl, xs, rfl, hx, hca, hsa, hst, gd, k⟩ := h
  refine ⟨_, (pss_cons (ps_cut (ps_if (PW.pt (pw_or (pt_not (pt_val (pe_cal c_is_content hr (pa_cons (pv 1) pa_nil)))) (pw_or (pt_not (pt_val (pe_cal c_is_width hr (pa_cons (pv 2) pa_nil)))) (pw_or1 (pt_not (pt_val (pe_cal c_are_steps hr (pa_cons (pe_callB call_len' (by rfl) T.len (by decide +kernel) (pa_cons (pv 1) pa_nil)) (pa_cons (pv 2) (pa_cons (pv 3) pa_nil))))))))))
      (pss_one ps_never)
      pss_nil))
    (pss_cons (ps_set (i := 4) sc_Plan___init.nd rfl (Or.inr rfl) (pe_cal c_epochs_of hr (pa_cons (pv 3) pa_nil)))
    (pss_cons (ps_fld (pv 0) (pv 1) rfl)
    (pss_cons (ps_fld (pv 0) (pv 2) rfl)
    (pss_cons (ps_fld (pv 0) (pe_callTy call_list' (by rfl) T.list (by decide +kernel) (pa_cons (pv 3) pa_nil)) rfl)
    (pss_cons (ps_fld (pv 0) (pe_cal c_pieces_of hr (pa_cons (pv 2) (pa_cons (pv 3) pa_nil))) rfl)
    (pss_cons (ps_fld (pv 0) (pe_lc (own := [("piece", 5)]) (g := (gName 5)) (tt := tYes) rfl sc_Plan___init.nd (pi_list (pe_fld (pv 0) rfl)) (blkOk_by (own := [("piece", 5)]) (N := N_Plan___init) (sc := defScope s_Plan___init) (by decide +kernel)) (fun _ _ _ _ _ => pg_name (i := 5) sc_Plan___init.nd rfl (Or.inl rfl)) (fun _ _ _ _ _ => pts_nil) (fun _ _ _ _ _ => (pe_ix ix_seq' (pv 4) (pe_ix ix_seq' (pv 5) pe_int (fun _ _ => rfl)) (fun _ _ => rfl)))) rfl)
    (pss_one (ps_fld (pv 0) (pe_op op_add (pe_bm PySem.F.plainAttrs_list PySem.F.slot_list_count PySem.F.type_list_count (mt_countX (Nat.lt_of_le_of_lt (Nat.add_le_add_left (show 1 ≤ 64 by decide) _) hr.units)) (pv 3) (pa_cons pe_non pa_nil)) pe_int) rfl))))))))), ?_⟩
  have xl := paired_len hst
  have l1 := gd.sl
  have l2 := gd.c24
  have l3 := gd.pc
  -- the questions, all of them right
  refine ⟨fun σ' H' => σ' = [some (.ref x), some (.ref ca), some (.int pl.w), some (.ref sa), none, none] ∧ Same H H', ?_, ?_⟩
  · refine ⟨_, rfl, _, rfl, th_ints hca (by omega), fun H1 s1 => ⟨_, rfl, ?_⟩⟩
    rw [content_ok hca gd.c1 gd.c24 gd.cb]
    refine iteF ⟨_, rfl, _, "int", rfl, ⟨.int _, by decide, fun _ _ _ e => by cases e⟩, ?_⟩
    rw [width_ok gd.w1 gd.w24]
    refine ⟨_, rfl, iteF ?_⟩
    have so := steps_ok (s1 _ _ hsa) (steps_same s1 hst) (fun y hy => gd.st y hy)
    refine ⟨_, rfl, ca, _, rfl, .inr (s1 _ _ hca), _, rfl, _, rfl, _, _, .ref sa, rfl, th_steps (s1 _ _ hsa) (by omega) (steps_same s1 hst) (fun y hy => gd.st y hy) (by omega), fun z => ?_, fun _ H2 s2 => ?_⟩
    · rw [ivs_len, so] at z
      cases z
    · exact ⟨pl.w, sa, xs, pl.sts, rfl, s2 _ _ (s1 _ _ hsa), steps_same (s1.trans s2) hst, by have := gd.w1; omega, by omega, fun y hy => ok24 (gd.st y hy) gd.c24, gd.pc, fun H3 s3 => ⟨_, rfl, iteF ⟨rfl, s1.trans (s2.trans s3)⟩⟩⟩
  rintro _ H2 ⟨rfl, S2⟩
  -- the epochs of the steps
  refine ⟨_, rfl, sa, xs, pl.sts, rfl, S2 _ _ hsa, steps_same S2 hst, by omega, fun el H3 s3 hel h3 => ?_⟩
  have k3 : Ko x H H3 := fun a o _ e => (S2.trans s3) _ _ e
  have x3 : H3 x = some (.ins C dx []) := (S2.trans s3) _ _ hx
  have nca : ca ≠ x := ne_of hca hx (by intro q; cases q)
  have nsa : sa ≠ x := ne_of hsa hx (by intro q; cases q)
  have nel : el ≠ x := ne_of h3 x3 (by intro q; cases q)
  -- base, width, steps
  refine ⟨_, rfl, _, rfl, x, C, dx, _, rfl, x3, TC.cl, TC.nB, by show 0 < 1000; decide, ?_⟩
  refine ⟨_, rfl, _, rfl, x, C, dx, _, rfl, upd_same, TC.cl, TC.nW, Nat.lt_of_le_of_lt (len_put (Nat.le_refl _)) (by decide), ?_⟩
  have k5 := (k3.upd (o := .ins C dx (putF "_base" (.ref ca) []))).upd (o := .ins C dx (putF "_width" (.int pl.w) (putF "_base" (.ref ca) [])))
  have e5 : (L2.upd (L2.upd H3 x (.ins C dx (putF "_base" (.ref ca) []))) x (.ins C dx (putF "_width" (.int pl.w) (putF "_base" (.ref ca) [])))) el = some (.lst (ivs (eps 0 pl.sts))) := by rw [upd_ne nel, upd_ne nel]; exact h3
  generalize hH5 : L2.upd (L2.upd H3 x (.ins C dx (putF "_base" (.ref ca) []))) x (.ins C dx (putF "_width" (.int pl.w) (putF "_base" (.ref ca) []))) = H5 at k5 e5
  have x5 : H5 x = some (.ins C dx (putF "_width" (.int pl.w) (putF "_base" (.ref ca) []))) := by rw [← hH5]; exact upd_same
  have f5 : ∀ a, H5 a = none → H a = none := fun a e => by
    cases z : H a with
    | none => rfl
    | some o =>
      by_cases n : a = x
      · rw [n, x5] at e
        cases e
      · rw [k5 a o n z] at e
        cases e
  refine ⟨_, rfl, sa, xs, rfl, .inl (k5 _ _ nsa hsa), fun sl H6 hsl s6 h6 => ?_⟩
  have x6 := s6 _ _ x5
  have nsl : sl ≠ x := ne_of h6 x6 (by intro q; cases q)
  refine ⟨_, rfl, x, C, dx, _, rfl, x6, TC.cl, TC.nS, Nat.lt_of_le_of_lt (len_put (len_put (Nat.le_refl _))) (by decide), ?_⟩
  have k7 := (k5.same s6).upd (o := .ins C dx (putF "_steps" (.ref sl) (putF "_width" (.int pl.w) (putF "_base" (.ref ca) []))))
  -- the pieces
  refine ⟨_, rfl, _, rfl, pl.w, sa, xs, pl.sts, rfl, k7 _ _ nsa hsa, steps_ko k7 hx hst, by have := gd.w1; omega, by omega, fun y hy => ok24 (gd.st y hy) gd.c24, fun ql H8 ys s8 hql h8 pv => ?_⟩
  have ylen := paired_len pv
  have x8 := s8 _ _ (upd_same (H := H6) (a := x) (o := .ins C dx (putF "_steps" (.ref sl) (putF "_width" (.int pl.w) (putF "_base" (.ref ca) [])))))
  have k8 := k7.same s8
  have nql : ql ≠ x := ne_of h8 x8 (by intro q; cases q)
  refine ⟨_, rfl, x, C, dx, _, rfl, x8, TC.cl, TC.nP, Nat.lt_of_le_of_lt (len_put (len_put (len_put (Nat.le_refl _)))) (by decide), ?_⟩
  have sl8 : H8 sl = some (.lst xs) := s8 _ _ (by rw [upd_ne nsl]; exact h6)
  have el8 : H8 el = some (.lst (ivs (eps 0 pl.sts))) := s8 _ _ (by rw [upd_ne nel]; exact s6 _ _ e5)
  -- their epochs
  have k9 := k8.upd (o := .ins C dx (putF "_pieces" (.ref ql) (putF "_steps" (.ref sl) (putF "_width" (.int pl.w) (putF "_base" (.ref ca) [])))))
  have q9 : (L2.upd H8 x (.ins C dx (putF "_pieces" (.ref ql) (putF "_steps" (.ref sl) (putF "_width" (.int pl.w) (putF "_base" (.ref ca) [])))))) ql = some (.lst ys) := by rw [upd_ne nql]; exact h8
  have el9 : (L2.upd H8 x (.ins C dx (putF "_pieces" (.ref ql) (putF "_steps" (.ref sl) (putF "_width" (.int pl.w) (putF "_base" (.ref ca) [])))))) el = some (.lst (ivs (eps 0 pl.sts))) := by rw [upd_ne nel]; exact el8
  have sl9 : (L2.upd H8 x (.ins C dx (putF "_pieces" (.ref ql) (putF "_steps" (.ref sl) (putF "_width" (.int pl.w) (putF "_base" (.ref ca) [])))))) sl = some (.lst xs) := by rw [upd_ne nsl]; exact sl8
  have p9 : Paired (PieceA (L2.upd H8 x (.ins C dx (putF "_pieces" (.ref ql) (putF "_steps" (.ref sl) (putF "_width" (.int pl.w) (putF "_base" (.ref ca) []))))))) ys (allP pl.w 0 pl.sts) := L2.Paired.mapP pv fun v p z => by
    obtain ⟨t, b, e, ht, hb⟩ := z
    exact ⟨t, b, e, by rw [upd_ne (ne_of ht x8 (by intro q; cases q))]; exact ht, by rw [upd_ne (ne_of hb x8 (by intro q; cases q))]; exact hb⟩
  have x9 : (L2.upd H8 x (.ins C dx (putF "_pieces" (.ref ql) (putF "_steps" (.ref sl) (putF "_width" (.int pl.w) (putF "_base" (.ref ca) [])))))) x = _ := upd_same
  generalize L2.upd H8 x (.ins C dx (putF "_pieces" (.ref ql) (putF "_steps" (.ref sl) (putF "_width" (.int pl.w) (putF "_base" (.ref ca) []))))) = H9 at k9 q9 el9 sl9 p9 x9
  refine ⟨_, rfl, x, C, dx, _, _, rfl, x9, TC.cl, TC.nP, put_at, ql, rfl, ⟨ys, SqL.of q9⟩, fun D hD => lc_list (K := K) (a := ql) (xs := ys) (fun i H' => Same H9 H' ∧ H' D = some (.lst (ivs ((pieceE pl.sts (allP pl.w 0 pl.sts)).take i)))) ?_ ?_ ?_ ?_⟩
  · exact ⟨same_new hD, upd_same⟩
  · rintro i H' _ ⟨s10, _⟩
    exact SqL.of (s10 _ _ q9)
  · rintro i y H' hy ⟨s10, h10⟩
    have il : i < ys.length := (List.getElem?_eq_some_iff.mp hy).1
    obtain ⟨p, hp1, t, b, rfl, ht, hb⟩ := paired_get p9 hy
    obtain ⟨j, hj1, _, hj2⟩ := allP_in (List.mem_of_getElem? hp1)
    have jl : j < (eps 0 pl.sts).length := by rw [eps_len]; omega
    have ge : (pieceE pl.sts (allP pl.w 0 pl.sts))[i]? = some (eps 0 pl.sts)[j] := by
      unfold pieceE
      rw [List.getElem?_map, hp1]
      show some (((eps 0 pl.sts)[p.1.toNat]?).getD 0) = _
      rw [hj1, Int.toNat_natCast, List.getElem?_eq_getElem jl]
      rfl
    have ht' := s10 _ _ ht
    rw [hj1] at ht'
    refine ⟨rfl, _, rfl, _, rfl, t, _, _, _, rfl, rfl, .inr ht', rfl, el, _, _, _, rfl, rfl, .inl (s10 _ _ el9), atI_nat (ivs_get jl), _, h10, szl (by rw [ivs_len, List.length_take]; omega), same_mut s10 hD, ?_⟩
    rw [upd_same, List.take_add_one, ge]
    unfold ivs
    rw [List.map_append]
    rfl
  · rintro H10 ⟨s10, h10⟩
    have pl' : (pieceE pl.sts (allP pl.w 0 pl.sts)).length = ys.length := by
      unfold pieceE
      rw [List.length_map, ylen]
    rw [← pl', List.take_length] at h10
    have x10 := s10 _ _ x9
    have nD : D ≠ x := ne_of h10 x10 (by intro q; cases q)
    refine ⟨_, rfl, x, C, dx, _, rfl, x10, TC.cl, TC.nE, Nat.lt_of_le_of_lt (len_put (len_put (len_put (len_put (Nat.le_refl _))))) (by decide), ?_⟩
    have k11 := (k9.same s10).upd (o := .ins C dx (putF "_piece_epochs" (.ref D) (putF "_pieces" (.ref ql) (putF "_steps" (.ref sl) (putF "_width" (.int pl.w) (putF "_base" (.ref ca) []))))))
    refine ⟨_, rfl, .inl ⟨rfl, _, SqL.of (k11 _ _ nsa hsa)⟩, sa, xs, _, rfl, rfl, SqL.of (k11 _ _ nsa hsa), dp_steps (steps_ko k11 hx hst), (lay_steps _).1, ⟨_, _, rfl, rfl, ?_⟩⟩
    refine ⟨_, rfl, x, C, dx, _, rfl, upd_same, TC.cl, TC.nN, Nat.lt_of_le_of_lt (len_put (len_put (len_put (len_put (len_put (Nat.le_refl _)))))) (by decide), ?_⟩
    rw [bars_count]
    have f8 : ∀ c, (L2.upd H6 x (.ins C dx (putF "_steps" (.ref sl) (putF "_width" (.int pl.w) (putF "_base" (.ref ca) []))))) c = none → H c = none := fun c e => by
      cases z : H c with
      | none => rfl
      | some o =>
        by_cases n : c = x
        · rw [n, upd_same] at e
          cases e
        · rw [k7 c o n z] at e
          cases e
    have f9 : ∀ c, H9 c = none → H c = none := fun c e => by
      cases z : H c with
      | none => rfl
      | some o =>
        by_cases n : c = x
        · rw [n, x9] at e
          cases e
        · rw [k9 c o n z] at e
          cases e
    refine k _ sl ql D _ ys k11.upd (f5 _ hsl) (f8 _ hql) (f9 _ hD) upd_same ?_ ?_ ?_ ?_ ?_ put_at (by rfl) ?_ ?_ ?_ ?_
    · exact put_no (put_no (put_no (put_no (put_no put_at))))
    · exact put_no (put_no (put_no (put_no put_at)))
    · exact put_no (put_no (put_no put_at))
    · exact put_no (put_no put_at)
    · exact put_no put_at
    · rw [upd_ne nsl, upd_ne nsl]
      exact s10 _ _ sl9
    · rw [upd_ne nql, upd_ne nql]
      exact s10 _ _ q9
    · refine L2.Paired.mapP p9 fun v p z => ?_
      obtain ⟨t, b, e, ht, hb⟩ := z
      have ht' := s10 _ _ ht
      have hb' := s10 _ _ hb
      exact ⟨t, b, e, by rw [upd_ne (ne_of ht' x10 (by intro q; cases q)), upd_ne (ne_of ht' x10 (by intro q; cases q))]; exact ht', by rw [upd_ne (ne_of hb' x10 (by intro q; cases q)), upd_ne (ne_of hb' x10 (by intro q; cases q))]; exact hb'⟩
    · rw [upd_ne nD, upd_ne nD]
      exact h10
end
end Af

set_option Elab.async false
set_option linter.all false
set_option maxRecDepth 100000
namespace Af
open PySem L2
/-- a plan's tuple with its list of steps told -/
def sp_parts : Sp := fun vs H Q _ => ∃ (a ca sa : Addr) (sp : Int) (xs : List V) (sts : List Stp), vs = [.ref a] ∧ H a = some (.tup [.ref ca, .int sp, .ref sa]) ∧ H sa = some (.lst xs) ∧ Paired (StepV H) xs sts ∧ 0 < sp ∧ xs.length ≤ 100 ∧
  (∀ f ws, some (f, ws) ∈ sts → ws.length ≤ 100) ∧ ∀ l H' ys, Same H H' → H l = none → H' l = some (.lst ys) → Q (.ref l) H'
def sp_write : Sp := fun vs H Q _ => ∃ (q : Pn) (m : Nat) (many kinds lo : Int), vs = [.ref q.p, .int many, .int kinds, .int lo] ∧ Pen q m H ∧ m + 30 < 1000000000000 ∧ 1 ≤ many ∧ many ≤ 24 ∧ 1 ≤ kinds ∧ kinds ≤ 8 ∧ 1 ≤ lo ∧ lo ≤ 24 ∧
  ∀ v H' f ws, Go q (m + 30) H H' → StepV H' v (some (f, ws)) → 0 ≤ f → ws ≠ [] → (ws.length : Int) ≤ lo → f + (ws.length : Int) ≤ many → (∀ z ∈ ws, 0 ≤ z ∧ z < kinds) → Q v H'
section
variable {P : Program} {w : World} {K : PySem.W.Frag} {mg : Str → Option Value} {base : Heap}
theorem weak_parts {f : Addr} {fd : FuncData} (F : FnOk P w K mg base CX0 2 f fd ["_law_plan_here"] sp_partsX) : FnOk P w K mg base CX0 2 f fd ["_law_plan_here"] sp_parts :=
  F.imp fun vs H Q E h => by
    obtain ⟨a, ca, sa, sp, xs, sts, e, h1, h2, h3, h4, h5, h6, k⟩ := h
    exact ⟨a, ca, sa, sp, xs, sts, e, h1, h2, h3, h4, h5, h6, fun l H' ys s hl h7 _ => k l H' ys s hl h7⟩
theorem ok_write {f : Addr} {fd : FuncData} (F : Fun K "_law_write" "_law_write" s_l_write f fd) (T : Txt mg) (c_l_draw : Cal P w K mg base 2 "_law_draw" ["_law_pen_here", "_law_under"] sp_draw) :
    FnOk P w K mg base CX0 3 f fd ["_law_pen_here", "_law_many", "_law_kinds", "_law_longest_row"] sp_write := by
  refine F.ok sc_l_write (fun vs H Q E h => ?_) (fun cdv A outer s H vs Q E hr h => ?_)
  · obtain ⟨_, _, _, _, _, rfl, _⟩ := h
    rfl
  obtain ⟨q, m, many, kinds, lo, rfl, hP, hm, m1, m2, k1, k2, l1, l2, k⟩ := h
  refine ⟨_, (pss_cons (ps_set (i := 4) sc_l_write.nd rfl (Or.inl rfl) (pe_cal c_l_draw hr (pa_cons (pv 0) (pa_cons (pv 1) pa_nil))))
    (pss_cons (ps_set (i := 5) sc_l_write.nd rfl (Or.inl rfl) (pe_callB (call_min2 rfl) (by rfl) T.min (by decide +kernel) (pa_cons (pv 3) (pa_cons (pe_op op_sub (pv 1) (pv 4)) pa_nil))))
    (pss_one (ps_ret (pe_tup' (pa_cons (pv 4) (pa_cons (pe_callTy call_tuple' (by rfl) T.tuple (by decide +kernel) (pa_cons (pe_lc (own := [("_law_k", 6)]) (g := (gName 6)) (tt := tYes) rfl sc_l_write.nd (pi_range1 rfl T.range (pa_cons (pe_op op_add pe_int (pe_cal c_l_draw hr (pa_cons (pv 0) (pa_cons (pv 5) pa_nil)))) pa_nil)) (blkOk_by (own := [("_law_k", 6)]) (N := N_l_write) (sc := defScope s_l_write) (by decide +kernel)) (fun _ _ _ _ _ => pg_name (i := 6) sc_l_write.nd rfl (Or.inl rfl)) (fun _ _ _ _ _ => pts_nil) (fun _ _ _ _ _ => (pe_cal c_l_draw hr (pa_cons (pv 0) (pa_cons (pv 2) pa_nil))))) pa_nil)) pa_nil))))))), ?_⟩
  refine ⟨_, rfl, _, rfl, q, m, many, rfl, by omega, by omega, hP, by omega, fun d H1 d0 d1 g1 => ?_⟩
  refine ⟨_, rfl, _, rfl, _, rfl, _, _, rfl, rfl, _, _, rfl, ?_⟩
  have hmore : ∃ more : Int, (if many - d < lo then many - d else lo) = more ∧ 1 ≤ more ∧ more ≤ lo ∧ d + more ≤ many := by
    by_cases c : many - d < lo
    · rw [if_pos c]
      exact ⟨_, rfl, by omega, by omega, by omega⟩
    · rw [if_neg c]
      exact ⟨_, rfl, by omega, by omega, by omega⟩
  obtain ⟨more, e, r1, r2, r3⟩ := hmore
  rw [e]
  refine ⟨_, rfl, _, rfl, _, rfl, q, m + 1, more, rfl, by omega, by omega, g1.pen, by omega, fun d2 H2 d20 d21 g2 => ⟨_, _, rfl, rfl, _, rfl, ?_, ?_, ?_⟩⟩
  · omega
  · omega
  refine lc_draws (q := q) (m := m + 1 + 1) (u := kinds) g2.pen ?_ ?_ (fun x H3 Q m3 p3 h3 kk => ?_) (fun D H3 ns hD g3 h3 hl hb => ?_)
  · omega
  · exact fun x => rfl
  · exact ⟨_, rfl, _, rfl, q, m3, kinds, rfl, by omega, by omega, p3, by omega, kk⟩
  · refine ⟨D, _, rfl, .inl h3, fun t H4 s4 h4 => ⟨szr, fun r H5 hr5 s5 h5 => ?_⟩⟩
    have gg := g1.trans (g2.trans g3)
    have hlen : ns.length = (1 + d2).toNat := hl
    refine k _ H5 d ns (((gg.same s4).same s5).mono (by omega)) ⟨r, t, rfl, h5, s5 _ _ h4⟩ d0 ?_ (by omega) (by omega) hb
    intro z
    rw [z] at hlen
    have : (0 : Nat) = (1 + d2).toNat := hlen
    omega
end
end Af

set_option Elab.async false
set_option linter.all false
set_option maxRecDepth 100000
namespace Af
open PySem L2
abbrev s_l_drawn : Stmt := top 50
abbrev N_l_drawn : List Str := ["_law_pen_here", "_law_many", "_law_most", "_law_kinds", "_law_cells_here", "_law_plan_here", "_law_turn", "_law_longer", "_law_k"]
theorem sc_l_drawn : FnScope N_l_drawn ["_law_pen_here", "_law_many", "_law_most", "_law_kinds"] (defScope s_l_drawn) := ⟨rfl, rfl, rfl, by decide +kernel, rfl, by decide +kernel, by decide +kernel⟩

abbrev s_l_log : Stmt := top 51
abbrev N_l_log : List Str := ["_law_pen_here", "_law_kinds", "_law_news", "_law_steps_here", "_law_step_here"]
theorem sc_l_log : FnScope N_l_log ["_law_pen_here", "_law_kinds"] (defScope s_l_log) := ⟨rfl, rfl, rfl, by decide +kernel, rfl, by decide +kernel, by decide +kernel⟩

abbrev s_l_copy : Stmt := top 52
abbrev N_l_copy : List Str := ["_law_pen_here", "_law_kinds", "_law_news", "_law_steps_here"]
theorem sc_l_copy : FnScope N_l_copy ["_law_pen_here", "_law_kinds"] (defScope s_l_copy) := ⟨rfl, rfl, rfl, by decide +kernel, rfl, by decide +kernel, by decide +kernel⟩

abbrev s_l_plan : Stmt := top 53
abbrev N_l_plan : List Str := ["_law_pen_here", "_law_most", "_law_road"]
theorem sc_l_plan : FnScope N_l_plan ["_law_pen_here", "_law_most"] (defScope s_l_plan) := ⟨rfl, rfl, rfl, by decide +kernel, rfl, by decide +kernel, by decide +kernel⟩

def sp_drawn : Sp := fun vs H Q _ => ∃ (q : Pn) (m : Nat) (many most kinds : Int), vs = [.ref q.p, .int many, .int most, .int kinds] ∧ Pen q m H ∧ m + 2000 < 1000000000000 ∧ 1 ≤ many ∧ many ≤ 24 ∧ 0 ≤ most ∧ most ≤ 12 ∧ 1 ≤ kinds ∧ kinds ≤ 8 ∧
  ∀ v H' pl, Go q (m + 2000) H H' → PlanV q.p H' v pl → Good (2 * most.toNat) (3 * most.toNat) pl → pl.cs.length = many.toNat → Q v H'
def sp_log : Sp := fun vs H Q _ => ∃ (q : Pn) (m : Nat) (kinds : Int), vs = [.ref q.p, .int kinds] ∧ Pen q m H ∧ m + 20 < 1000000000000 ∧ 1 ≤ kinds ∧ kinds ≤ 8 ∧
  ∀ v H' pl, Go q (m + 20) H H' → PlanV q.p H' v pl → Good 10 10 pl → pl.cs.length = 5 → Q v H'
def sp_plan : Sp := fun vs H Q _ => ∃ (q : Pn) (m : Nat) (most : Int), vs = [.ref q.p, .int most] ∧ Pen q m H ∧ m + 2100 < 1000000000000 ∧ 5 ≤ most ∧ most ≤ 12 ∧
  ∀ v H' pl, Go q (m + 2100) H H' → PlanV q.p H' v pl → Good (2 * most.toNat) (3 * most.toNat) pl → pl.cs.length ≤ 5 → Q v H'
section
variable {P : Program} {w : World} {K : PySem.W.Frag} {mg : Str → Option Value} {base : Heap}
theorem ok_drawn {f : Addr} {fd : FuncData} (F : Fun K "_law_drawn" "_law_drawn" s_l_drawn f fd) (T : Txt mg) (c_l_draw : Cal P w K mg base 2 "_law_draw" ["_law_pen_here", "_law_under"] sp_draw)
    (c_l_parts : Cal P w K mg base 2 "_law_parts" ["_law_plan_here"] sp_parts) (c_l_write : Cal P w K mg base 3 "_law_write" ["_law_pen_here", "_law_many", "_law_kinds", "_law_longest_row"] sp_write) :
    FnOk P w K mg base CX0 4 f fd ["_law_pen_here", "_law_many", "_law_most", "_law_kinds"] sp_drawn := by
  refine F.ok sc_l_drawn (fun vs H Q E h => ?_) (fun cdv A outer s H vs Q E hr h => ?_)
  · obtain ⟨_, _, _, _, _, rfl, _⟩ := h
    rfl
  obtain ⟨q, m, many, most, kinds, rfl, hP, hm, m1, m2, o1, o2, k1, k2, k⟩ := h
  refine ⟨_, (pss_cons (ps_set (i := 4) sc_l_drawn.nd rfl (Or.inl rfl) (pe_callTy call_tuple' (by rfl) T.tuple (by decide +kernel) (pa_cons (pe_lc (own := [("_law_k", 8)]) (g := (gName 8)) (tt := tYes) rfl sc_l_drawn.nd (pi_range1 rfl T.range (pa_cons (pv 1) pa_nil)) (blkOk_by (own := [("_law_k", 8)]) (N := N_l_drawn) (sc := defScope s_l_drawn) (by decide +kernel)) (fun _ _ _ _ _ => pg_name (i := 8) sc_l_drawn.nd rfl (Or.inl rfl)) (fun _ _ _ _ _ => pts_nil) (fun _ _ _ _ _ => (pe_cal c_l_draw hr (pa_cons (pv 0) (pa_cons (pv 3) pa_nil))))) pa_nil)))
    (pss_cons (ps_set (i := 5) sc_l_drawn.nd rfl (Or.inl rfl) (pe_tup' (pa_cons (pv 4) (pa_cons (pe_op op_add pe_int (pe_cal c_l_draw hr (pa_cons (pv 0) (pa_cons pe_int pa_nil)))) (pa_cons (pe_lst' pa_nil) pa_nil)))))
    (pss_cons (ps_for PassesOwn.never rfl (pi_range1 rfl T.range (pa_cons (pe_cal c_l_draw hr (pa_cons (pv 0) (pa_cons (pe_op op_add (pv 2) pe_int) pa_nil))) pa_nil)) (pg_name (i := 6) sc_l_drawn.nd rfl (Or.inl rfl))
      (pss_cons (ps_set (i := 7) sc_l_drawn.nd rfl (Or.inl rfl) (pe_op op_cat' (pe_ix ix_seq' (pv 5) pe_int (fun _ _ => rfl)) (pe_lst' (pa_cons (pe_cal c_l_write hr (pa_cons (pv 0) (pa_cons (pv 1) (pa_cons (pv 3) (pa_cons pe_int pa_nil))))) pa_nil))))
    (pss_cons (ps_cut (ps_if (pt_cmpR op_le (pe_callB call_len' (by rfl) T.len (by decide +kernel) (pa_cons (pe_cal c_l_parts hr (pa_cons (pe_tup' (pa_cons (pv 4) (pa_cons (pe_ix ix_seq' (pv 5) pe_int (fun _ _ => rfl)) (pa_cons (pv 7) pa_nil)))) pa_nil)) pa_nil)) (pv 2) (nomark _))
      (pss_one (ps_set (i := 5) sc_l_drawn.nd rfl (Or.inl rfl) (pe_tup' (pa_cons (pv 4) (pa_cons (pe_ix ix_seq' (pv 5) pe_int (fun _ _ => rfl)) (pa_cons (pv 7) pa_nil))))))
      pss_nil))
    (pss_one (ps_if (pt_cmpR op_eq (pe_cal c_l_draw hr (pa_cons (pv 0) (pa_cons pe_int pa_nil))) pe_int (nomark _))
      (pss_one (ps_set (i := 5) sc_l_drawn.nd rfl (Or.inl rfl) (pe_tup' (pa_cons (pv 4) (pa_cons (pe_ix ix_seq' (pv 5) pe_int (fun _ _ => rfl)) (pa_cons (pe_op op_cat' (pe_ix ix_seq' (pv 5) pe_int (fun _ _ => rfl)) (pe_lst' (pa_cons pe_non pa_nil))) pa_nil))))))
      pss_nil)))))
    (pss_one (ps_ret (pv 5)))))), ?_⟩
  -- the cells
  refine ⟨_, rfl, _, rfl, ?_, ?_, ?_⟩
  · omega
  · omega
  refine lc_draws (q := q) (m := m) (u := kinds) hP ?_ ?_ (fun x H3 Q m3 p3 h3 kk => ?_) (fun D H1 cs hD g1 h1 hl hb => ?_)
  · omega
  · exact fun x => rfl
  · exact ⟨_, rfl, _, rfl, q, m3, kinds, rfl, by omega, by omega, p3, by omega, kk⟩
  refine ⟨D, _, rfl, .inl h1, fun ca H2 s2 h2 => ?_⟩
  -- the plan without steps
  have g2 := (g1.same s2).mono (m' := m + 24) (by omega)
  refine ⟨_, rfl, _, rfl, q, m + 24, 3, rfl, by decide, by decide, g2.pen, by omega, fun d H3 d0 d1 g3 => ⟨_, _, rfl, rfl, szr, fun l H4 hl4 s4 h4 => ⟨szr, fun t H5 ht s5 h5 => ?_⟩⟩⟩
  have g5 := ((g2.trans g3).same s4).same s5
  -- the turns
  refine ⟨_, rfl, _, rfl, _, _, rfl, rfl, q, m + 25, most + 1, rfl, by omega, by omega, g5.pen, by omega, fun n H6 n0 n1 g6 => ⟨_, rfl, by omega, by omega, ?_⟩⟩
  have g7 := g5.trans g6
  have c6 : H6 ca = some (.tup (ivs cs)) := g6.kp.tup (s5 _ _ (s4 _ _ (g3.kp.tup h2)))
  have hcs : cs.length = many.toNat := hl
  refine for_range (lo := 0) (fun i σ' H' => ∃ v pl lv kv, σ' = [some (.ref q.p), some (.int many), some (.int most), some (.int kinds), some (.ref ca), some v, kv, lv, none] ∧ Go q (m + 26 + 31 * i) H H' ∧ H' ca = some (.tup (ivs cs)) ∧ PlanV q.p H' v pl ∧ pl.cs = cs ∧ Good (2 * i) (3 * i) pl) ?_ ?_ ?_
  · refine ⟨.ref t, ⟨cs, 1 + d, []⟩, none, none, rfl, g7, c6, ?_, rfl, ?_⟩
    · refine (PlanV.mk ⟨t, ca, l, [], rfl, h5, s5 _ _ (s4 _ _ (g3.kp.tup h2)), (g3.pen.free hl4).1, s5 _ _ h4, .nil⟩ : PlanV q.p H5 (.ref t) ⟨cs, 1 + d, []⟩).kp g6.kp
    · exact ⟨by show 1 ≤ cs.length; omega, by show cs.length ≤ 24; omega, fun z hz => by have := hb z hz; omega, by show 1 ≤ 1 + d; omega, by show 1 + d ≤ 24; omega, fun x hx => by simp at hx, Nat.le_refl _, Nat.le_refl _⟩
  · rintro i σ' H' hi ⟨v, pl, lv, kv, rfl, gi, ci, hv, ec, gd⟩
    have hi' : (i : Int) < most := by omega
    obtain ⟨a, ca', sa, xs, rfl, ha, hca, hn, hsa, hst⟩ := hv.ex
    -- longer
    refine ⟨_, rfl, a, _, _, _, rfl, rfl, .inr ha, rfl, _, rfl, _, rfl, _, rfl, q, _, many, kinds, 3, rfl, gi.pen, by omega, by omega, by omega, by omega, by omega, by decide, by decide, fun wv H1 f ws gw hsv f0 wn wl wm wb => ⟨szr, fun ll H2 hll s2' h2' => ?_⟩⟩
    have xl := paired_len hst
    have sl := gd.sl
    refine ⟨sa, ll, xs, _, rfl, rfl, s2' _ _ (gw.kp.lst hn hsa), h2', sz (by show xs.length + 1 ≤ 100000; omega), fun r H3 hr3 s3' h3' => ?_⟩
    have g3' := (gw.same s2').same s3'
    have st3 : Paired (StepV H3) (xs ++ [wv]) (pl.sts ++ [some (f, ws)]) := steps_same s3' (steps_same s2' (paired_app (steps_kp gw.kp hst) (.cons hsv .nil)))
    have a3 := g3'.kp.tup ha
    have c3 := g3'.kp.tup ci
    have v3 := hv.kp g3'.kp
    refine ⟨fun σ'' H'' => ∃ v pl lv kv, σ'' = [some (.ref q.p), some (.int many), some (.int most), some (.int kinds), some (.ref ca), some v, kv, lv, none] ∧ Go q (m + 56 + 31 * i) H H'' ∧ H'' ca = some (.tup (ivs cs)) ∧ PlanV q.p H'' v pl ∧ pl.cs = cs ∧ Good (2 * i + 1) (3 * i + 3) pl, ?_, ?_⟩
    · refine ⟨_, rfl, _, rfl, a, _, _, _, rfl, rfl, .inr a3, rfl, _, rfl, szr, fun tt H4 htt s4' h4' => ?_⟩
      have okl : ∀ f ws, some (f, ws) ∈ pl.sts ++ [some (f, ws)] → True := fun _ _ _ => trivial
      refine ⟨tt, ca, r, pl.w, xs ++ [wv], pl.sts ++ [some (f, ws)], rfl, h4', s4' _ _ h3', steps_same s4' st3, by have := gd.w1; omega, by rw [List.length_append]; show xs.length + 1 ≤ 100; omega, fun f' ws' hm' => ?_, fun pl2 H5 ys s5' hp2 h5' => ?_⟩
      · rcases List.mem_append.mp hm' with z | z
        · have q1 := gd.st _ z
          obtain ⟨q2, _, q3, _⟩ := q1
          have := gd.c24
          omega
        · cases List.mem_singleton.mp z
          omega
      · have gg := (gi.trans g3').same s4' |>.same s5'
        refine ⟨pl2, _, rfl, .inl h5', _, rfl, _, _, rfl, rfl, _, rfl, ite2 (fun _ => ?_) (fun _ => ?_)⟩
        · have a5 := s5' _ _ (s4' _ _ a3)
          refine ⟨_, rfl, _, rfl, a, _, _, _, rfl, rfl, .inr a5, rfl, _, rfl, szr, fun t2 H6 ht2 s6' h6' => ?_⟩
          have c6' := s6' _ _ (s5' _ _ (s4' _ _ c3))
          refine ⟨.ref t2, ⟨cs, pl.w, pl.sts ++ [some (f, ws)]⟩, _, _, rfl, (gg.same s6').mono (by omega), c6', ⟨t2, ca, r, _, rfl, h6', c6', ?_, s6' _ _ (s5' _ _ (s4' _ _ h3')), steps_same s6' (steps_same s5' (steps_same s4' st3))⟩, rfl, ?_⟩
          · exact ((gw.same s2').pen.free hr3).1
          · refine ⟨by show 1 ≤ cs.length; omega, by show cs.length ≤ 24; omega, fun z hz => by have := hb z hz; omega, gd.w1, gd.w24, fun x hx => ?_, ?_, ?_⟩
            · rcases List.mem_append.mp hx with z | z
              · have := gd.st x z
                rw [ec] at this
                exact this
              · rw [List.mem_singleton.mp z]
                exact ⟨f0, wn, by show f + (ws.length : Int) ≤ (cs.length : Int); omega, fun z hz => by have := wb z hz; omega⟩
            · show (pl.sts ++ [some (f, ws)]).length ≤ _
              rw [List.length_append]
              show pl.sts.length + 1 ≤ _
              omega
            · show tot (pl.sts ++ [some (f, ws)]) ≤ _
              rw [tot_app, tot_one]
              have := gd.tl
              show tot pl.sts + ws.length ≤ _
              omega
        · exact ⟨.ref a, pl, _, _, rfl, gg.mono (by omega), s5' _ _ (s4' _ _ c3), (v3.same s4').same s5', ec, gd.mono (by omega) (by omega)⟩
    · rintro σ'' H'' ⟨v, pl, lv, kv, rfl, gj, cj, hv, ec, gd⟩
      refine ⟨_, rfl, q, _, 3, rfl, by decide, by decide, gj.pen, by omega, fun d H1 d0 d1 g1 => ⟨rfl, _, rfl, ite2 (fun _ => ?_) (fun _ => ?_)⟩⟩
      · have hv1 := hv.kp g1.kp
        obtain ⟨a, ca', sa, xs, rfl, ha, hca, hn, hsa, hst⟩ := hv1.ex
        have xl := paired_len hst
        have sl := gd.sl
        refine ⟨_, rfl, _, rfl, a, _, _, _, rfl, rfl, .inr ha, rfl, _, rfl, a, _, _, _, rfl, rfl, .inr ha, rfl, szr, fun ll H2 hll s2' h2' => ?_⟩
        refine ⟨sa, ll, xs, _, rfl, rfl, s2' _ _ hsa, h2', sz (by show xs.length + 1 ≤ 100000; omega), fun r H3 hr3 s3' h3' => ⟨szr, fun t2 H4 ht2 s4' h4' => ?_⟩⟩
        have gg := ((((gj.trans g1).same s2').same s3').same s4')
        have c4 := s4' _ _ (s3' _ _ (s2' _ _ (g1.kp.tup cj)))
        refine ⟨.ref t2, ⟨cs, pl.w, pl.sts ++ [none]⟩, _, _, rfl, gg.mono (by omega), c4, ⟨t2, ca, r, _, rfl, h4', c4, ((g1.same s2').pen.free hr3).1, s4' _ _ h3', steps_same s4' (steps_same s3' (steps_same s2' (paired_app hst (.cons rfl .nil))))⟩, rfl, ?_⟩
        refine ⟨by show 1 ≤ cs.length; omega, by show cs.length ≤ 24; omega, fun z hz => by have := hb z hz; omega, gd.w1, gd.w24, fun x hx => ?_, ?_, ?_⟩
        · rcases List.mem_append.mp hx with z | z
          · have := gd.st x z
            rw [ec] at this
            exact this
          · rw [List.mem_singleton.mp z]
            exact True.intro
        · show (pl.sts ++ [none]).length ≤ _
          rw [List.length_append]
          show pl.sts.length + 1 ≤ _
          omega
        · show tot (pl.sts ++ [none]) ≤ _
          rw [tot_app, tot_one]
          have := gd.tl
          show tot pl.sts + 0 ≤ _
          omega
      · exact ⟨v, pl, _, _, rfl, (gj.trans g1).mono (by omega), g1.kp.tup cj, hv.kp g1.kp, ec, gd.mono (by omega) (by omega)⟩
  · rintro σ' H' ⟨v, pl, lv, kv, rfl, gi, ci, hv, ec, gd⟩
    exact ⟨_, rfl, k v H' pl (gi.mono (by omega)) hv (gd.mono (by omega) (by omega)) (by rw [ec]; exact hcs)⟩
end
end Af

set_option Elab.async false
set_option linter.all false
set_option maxRecDepth 100000
namespace Af
open PySem L2
/-- no or one barrier -/
theorem rep_none {kk : Int} (h : kk = 0 ∨ kk = 1) {H : Hp} : ∃ bs : List Stp, Paired (StepV H) (List.replicate kk.toNat [V.non]).flatten bs ∧ bs.length ≤ 1 ∧ tot bs = 0 ∧ ∀ x ∈ bs, x = none := by
  rcases h with h | h
  · subst h
    exact ⟨[], .nil, Nat.zero_le _, rfl, fun x hx => by simp at hx⟩
  · subst h
    exact ⟨[none], .cons rfl .nil, Nat.le_refl _, rfl, fun x hx => List.mem_singleton.mp hx⟩
theorem one_or {c : Bool} : ∃ kk : Int, (if c = true then (1 : Int) else 0) = kk ∧ (kk = 0 ∨ kk = 1) := by
  cases c with
  | true => exact ⟨1, rfl, .inr rfl⟩
  | false => exact ⟨0, rfl, .inl rfl⟩
theorem rep_len {kk : Int} (h : kk = 0 ∨ kk = 1) : (List.replicate kk.toNat [V.non]).flatten.length ≤ 1 := by
  rcases h with h | h <;> (subst h; decide)
section
variable {P : Program} {w : World} {K : PySem.W.Frag} {mg : Str → Option Value} {base : Heap}
theorem ok_log {f : Addr} {fd : FuncData} (F : Fun K "_law_log" "_law_log" s_l_log f fd) (T : Txt mg) (c_l_draw : Cal P w K mg base 2 "_law_draw" ["_law_pen_here", "_law_under"] sp_draw) :
    FnOk P w K mg base CX0 3 f fd ["_law_pen_here", "_law_kinds"] sp_log := by
  refine F.ok sc_l_log (fun vs H Q E h => ?_) (fun cdv A outer s H vs Q E hr h => ?_)
  · obtain ⟨_, _, _, rfl, _⟩ := h
    rfl
  obtain ⟨q, m, kinds, rfl, hP, hm, k1, k2, k⟩ := h
  refine ⟨_, (pss_cons (ps_set (i := 2) sc_l_log.nd rfl (Or.inl rfl) (pe_tup' (pa_cons (pe_cal c_l_draw hr (pa_cons (pv 0) (pa_cons (pv 1) pa_nil))) (pa_cons (pe_cal c_l_draw hr (pa_cons (pv 0) (pa_cons (pv 1) pa_nil))) pa_nil))))
    (pss_cons (ps_set (i := 3) sc_l_log.nd rfl (Or.inl rfl) (pe_lst' (pa_cons (pe_tup' (pa_cons pe_int (pa_cons (pv 2) pa_nil))) pa_nil)))
    (pss_cons (ps_for PassesOwn.never rfl (pi_tup (pe_tup' (pa_cons (pe_tup' (pa_cons pe_int (pa_cons (pe_tup' (pa_cons pe_int pa_nil)) pa_nil))) (pa_cons (pe_tup' (pa_cons pe_int (pa_cons (pv 2) pa_nil))) (pa_cons (pe_tup' (pa_cons pe_int (pa_cons (pe_tup' (pa_cons pe_int pa_nil)) pa_nil))) pa_nil))))) (pg_name (i := 4) sc_l_log.nd rfl (Or.inl rfl))
      (pss_one (ps_set (i := 3) sc_l_log.nd rfl (Or.inl rfl) (pe_op op_cat' (pe_op op_cat' (pv 3) (pe_op op_rep' (pe_lst' (pa_cons pe_non pa_nil)) (pe_callTy call_int1 (by rfl) T.int (by decide +kernel) (pa_cons (pe_cmpR op_gt (pe_cal c_l_draw hr (pa_cons (pv 0) (pa_cons pe_int pa_nil))) pe_int (nomark _)) pa_nil)))) (pe_lst' (pa_cons (pv 4) pa_nil))))))
    (pss_one (ps_ret (pe_tup' (pa_cons (pe_tup' (pa_cons pe_int (pa_cons pe_int (pa_cons pe_int (pa_cons (pe_cal c_l_draw hr (pa_cons (pv 0) (pa_cons (pv 1) pa_nil))) (pa_cons (pe_cal c_l_draw hr (pa_cons (pv 0) (pa_cons (pv 1) pa_nil))) pa_nil)))))) (pa_cons (pe_op op_add pe_int (pe_cal c_l_draw hr (pa_cons (pv 0) (pa_cons pe_int pa_nil)))) (pa_cons (pv 3) pa_nil))))))))), ?_⟩
  refine ⟨_, rfl, _, rfl, q, m, kinds, rfl, by omega, by omega, hP, by omega, fun d1 H1 d10 d11 g1 => ⟨_, rfl, _, rfl, q, m + 1, kinds, rfl, by omega, by omega, g1.pen, by omega, fun d2 H2 d20 d21 g2 => ⟨szr, fun nw H3 hn s3 h3 => ?_⟩⟩⟩
  refine ⟨_, rfl, szr, fun t H4 ht s4 h4 => ⟨szr, fun sl H5 hsl s5 h5 => ?_⟩⟩
  have g5 := (((g1.trans g2).same s3).same s4).same s5
  have nsl := (((g1.trans g2).same s3).same s4).pen.free hsl
  refine ⟨szr, fun a1 H6 _ s6 h6 => ⟨szr, fun t1 H7 _ s7 h7 => ⟨_, rfl, szr, fun t2 H8 _ s8 h8 => ⟨szr, fun a3 H9 _ s9 h9 => ⟨szr, fun t3 H10 _ s10 h10 => ⟨szr, fun tt H11 _ s11 h11 => ?_⟩⟩⟩⟩⟩⟩
  have S := s6.trans (s7.trans (s8.trans (s9.trans (s10.trans s11))))
  have g11 := g5.same S
  have nw11 : H11 nw = some (.tup (ivs [d1, d2])) := S _ _ (s5 _ _ (s4 _ _ h3))
  have its : Paired (StepV H11) [V.ref t1, V.ref t2, V.ref t3] [some (2, [1]), some (3, [d1, d2]), some (2, [0])] :=
    .cons ⟨t1, a1, rfl, s11 _ _ (s10 _ _ (s9 _ _ (s8 _ _ h7))), s11 _ _ (s10 _ _ (s9 _ _ (s8 _ _ (s7 _ _ h6))))⟩
      (.cons ⟨t2, nw, rfl, s11 _ _ (s10 _ _ (s9 _ _ h8)), nw11⟩ (.cons ⟨t3, a3, rfl, s11 _ _ h10, s11 _ _ (s10 _ _ h9)⟩ .nil))
  have iok : ∀ x ∈ ([some (2, [1]), some (3, [d1, d2]), some (2, [0])] : List Stp), OkS 5 x ∧ stl x ≤ 2 := by
    intro x hx
    simp only [List.mem_cons, List.not_mem_nil, or_false] at hx
    rcases hx with rfl | rfl | rfl
    · exact ⟨⟨by decide, by simp, by decide, fun z hz => by rw [List.mem_singleton.mp hz]; decide⟩, by decide⟩
    · refine ⟨⟨by decide, by simp, by show (3 : Int) + 2 ≤ 5; decide, fun z hz => ?_⟩, Nat.le_refl _⟩
      simp only [List.mem_cons, List.not_mem_nil, or_false] at hz
      rcases hz with rfl | rfl <;> omega
    · exact ⟨⟨by decide, by simp, by decide, fun z hz => by rw [List.mem_singleton.mp hz]; decide⟩, by decide⟩
  refine ⟨tt, rfl, ⟨_, SqT.of h11⟩, for_tup (K := K) (a := tt) (xs := [V.ref t1, V.ref t2, V.ref t3]) (fun i σ' H' => ∃ sl xs sts kv, σ' = [some (.ref q.p), some (.int kinds), some (.ref nw), some (.ref sl), kv] ∧ Go q (m + 2 + i) H H' ∧ Kp q.p H11 H' ∧ sl ≠ q.p ∧ H' sl = some (.lst xs) ∧ Paired (StepV H') xs sts ∧ sts.length ≤ 1 + 2 * i ∧ (∀ x ∈ sts, OkS 5 x) ∧ tot sts ≤ 2 + 2 * i) ?_ ?_ ?_ ?_⟩
  · refine ⟨sl, _, [some (0, [d1, d2])], none, rfl, g11, Kp.refl, nsl.1, S _ _ h5, .cons ⟨t, nw, rfl, S _ _ (s5 _ _ h4), nw11⟩ .nil, Nat.le_refl _, fun x hx => ?_, Nat.le_refl _⟩
    rw [List.mem_singleton.mp hx]
    refine ⟨by decide, by simp, by show (0 : Int) + 2 ≤ 5; decide, fun z hz => ?_⟩
    simp only [List.mem_cons, List.not_mem_nil, or_false] at hz
    rcases hz with rfl | rfl <;> omega
  · rintro i σ' H' hi ⟨sl, xs, sts, kv, rfl, gi, ki, _⟩
    exact SqT.of (ki.tup h11)
  · rintro i x σ' H' hx ⟨sl, xs, sts, kv, rfl, gi, ki, ns, h1', hst, l1, ok, l2⟩
    have i3 : i < 3 := (List.getElem?_eq_some_iff.mp hx).1
    obtain ⟨st, hs1, hs2⟩ := paired_get its hx
    obtain ⟨o1, o2⟩ := iok st (List.mem_of_getElem? hs1)
    have xl := paired_len hst
    refine ⟨_, rfl, szr, fun nl H1' hnl s1' h2' => ⟨_, rfl, q, _, 3, rfl, by decide, by decide, gi.pen.same s1', by omega, fun d H2' d0 d1' gd => ⟨_, _, rfl, rfl, .inr ⟨_, rfl, ?_⟩⟩⟩⟩
    obtain ⟨kk, ek, hk⟩ := one_or (c := decide (0 < d))
    rw [ek]
    have gg := (gi.same s1').trans gd
    have hnl' : nl ≠ q.p := (gi.pen.free hnl).1
    refine ⟨nl, kk, _, rfl, rfl, gd.kp.lst hnl' h2', by omega, by omega, sz (by show 1 * kk.toNat ≤ 100000; omega), fun r H3' hr3 s3' h3' => ?_⟩
    have rl := rep_len hk
    refine ⟨sl, r, xs, _, rfl, rfl, s3' _ _ (gd.kp.lst ns (s1' _ _ h1')), h3', sz (by omega), fun r2 H4' hr4 s4' h4' => ⟨_, rfl, szr, fun l5 H5' h5n s5' h5' => ?_⟩⟩
    have gg4 := ((gg.same s3').same s4').same s5'
    refine ⟨r2, l5, _, _, rfl, rfl, s5' _ _ h4', h5', sz (by rw [List.length_append]; show _ + 1 ≤ 100000; omega), fun r6 H6' h6n s6' h6' => ?_⟩
    obtain ⟨bs, b1, b2, b3, b4⟩ := rep_none hk (H := H6')
    have kk6 : Kp q.p H' H6' := (Kp.same s1').trans (gd.kp.trans (Kp.same (s3'.trans (s4'.trans (s5'.trans s6')))))
    refine ⟨r6, _, (sts ++ bs) ++ [st], _, rfl, (gg4.same s6').mono (by omega), ki.trans kk6, (gg4.pen.free h6n).1, h6', paired_app (paired_app (steps_kp kk6 hst) b1) (.cons ((hs2.kp ki).kp kk6) .nil), ?_, fun y hy => ?_, ?_⟩
    · rw [List.length_append, List.length_append]
      show sts.length + bs.length + 1 ≤ _
      omega
    · rcases List.mem_append.mp hy with hy | hy
      · rcases List.mem_append.mp hy with hy | hy
        · exact ok y hy
        · rw [b4 y hy]
          exact True.intro
      · rw [List.mem_singleton.mp hy]
        exact o1
    · rw [tot_app, tot_app, tot_one, b3]
      omega
  · rintro σ' H' ⟨sl, xs, sts, kv, rfl, gi, ki, ns, h1', hst, l1, ok, l2⟩
    have l1' : sts.length ≤ 7 := l1
    have l2' : tot sts ≤ 8 := l2
    have gi' : Go q (m + 5) H H' := gi
    refine ⟨_, rfl, _, rfl, q, m + 5, kinds, rfl, by omega, by omega, gi'.pen, by omega, fun e1 H1' e10 e11 ge1 => ⟨_, rfl, _, rfl, q, _, kinds, rfl, by omega, by omega, ge1.pen, by omega, fun e2 H2' e20 e21 ge2 => ⟨szr, fun ct H3' hct s3' h3' => ?_⟩⟩⟩
    refine ⟨_, rfl, q, _, 2, rfl, by decide, by decide, ge2.pen.same s3', by omega, fun d H4' d0 d1' gd => ⟨_, _, rfl, rfl, _, rfl, szr, fun r H5' hr5 s5' h5' => ?_⟩⟩
    have gg := (((gi'.trans (ge1.trans ge2)).same s3').trans gd).same s5'
    have kp : Kp q.p H' H5' := ge1.kp.trans (ge2.kp.trans ((Kp.same s3').trans (gd.kp.trans (Kp.same s5'))))
    refine k (.ref r) H5' ⟨[0, 0, 0, e1, e2], 1 + d, sts⟩ (gg.mono (by omega)) ⟨r, ct, sl, xs, rfl, h5', s5' _ _ (gd.kp.tup h3'), ns, kp.lst ns h1', steps_kp kp hst⟩ ?_ rfl
    refine ⟨by show 1 ≤ 5; decide, by show 5 ≤ 24; decide, fun z hz => ?_, by show 1 ≤ 1 + d; omega, by show 1 + d ≤ 24; omega, ok, by show sts.length ≤ 10; omega, by show tot sts ≤ 10; omega⟩
    simp only [List.mem_cons, List.not_mem_nil, or_false] at hz
    rcases hz with rfl | rfl | rfl | rfl | rfl <;> omega
theorem ok_copy {f : Addr} {fd : FuncData} (F : Fun K "_law_copy" "_law_copy" s_l_copy f fd) (T : Txt mg) (c_l_draw : Cal P w K mg base 2 "_law_draw" ["_law_pen_here", "_law_under"] sp_draw) :
    FnOk P w K mg base CX0 3 f fd ["_law_pen_here", "_law_kinds"] sp_log := by
  refine F.ok sc_l_copy (fun vs H Q E h => ?_) (fun cdv A outer s H vs Q E hr h => ?_)
  · obtain ⟨_, _, _, rfl, _⟩ := h
    rfl
  obtain ⟨q, m, kinds, rfl, hP, hm, k1, k2, k⟩ := h
  refine ⟨_, (pss_cons (ps_set (i := 2) sc_l_copy.nd rfl (Or.inl rfl) (pe_tup' (pa_cons (pe_cal c_l_draw hr (pa_cons (pv 0) (pa_cons (pv 1) pa_nil))) (pa_cons (pe_cal c_l_draw hr (pa_cons (pv 0) (pa_cons (pv 1) pa_nil))) pa_nil))))
    (pss_cons (ps_set (i := 3) sc_l_copy.nd rfl (Or.inl rfl) (pe_op op_cat' (pe_op op_cat' (pe_lst' (pa_cons (pe_tup' (pa_cons pe_int (pa_cons (pv 2) pa_nil))) pa_nil)) (pe_op op_rep' (pe_lst' (pa_cons pe_non pa_nil)) (pe_callTy call_int1 (by rfl) T.int (by decide +kernel) (pa_cons (pe_cmpR op_gt (pe_cal c_l_draw hr (pa_cons (pv 0) (pa_cons pe_int pa_nil))) pe_int (nomark _)) pa_nil)))) (pe_lst' (pa_cons (pe_tup' (pa_cons pe_int (pa_cons (pe_tup' (pa_cons pe_int pa_nil)) pa_nil))) pa_nil))))
    (pss_one (ps_ret (pe_tup' (pa_cons (pe_tup' (pa_cons (pe_cal c_l_draw hr (pa_cons (pv 0) (pa_cons (pv 1) pa_nil))) (pa_cons (pe_cal c_l_draw hr (pa_cons (pv 0) (pa_cons (pv 1) pa_nil))) (pa_cons pe_int (pa_cons pe_int (pa_cons pe_int pa_nil)))))) (pa_cons (pe_op op_add pe_int (pe_cal c_l_draw hr (pa_cons (pv 0) (pa_cons pe_int pa_nil)))) (pa_cons (pv 3) pa_nil)))))))), ?_⟩
  refine ⟨_, rfl, _, rfl, q, m, kinds, rfl, by omega, by omega, hP, by omega, fun d1 H1 d10 d11 g1 => ⟨_, rfl, _, rfl, q, m + 1, kinds, rfl, by omega, by omega, g1.pen, by omega, fun d2 H2 d20 d21 g2 => ⟨szr, fun nw H3 hn s3 h3 => ?_⟩⟩⟩
  refine ⟨_, rfl, szr, fun t H4 ht s4 h4 => ⟨szr, fun sl H5 hsl s5 h5 => ⟨szr, fun nl H6 hnl s6 h6 => ?_⟩⟩⟩
  have g6 := ((((g1.trans g2).same s3).same s4).same s5).same s6
  have nsl := (((g1.trans g2).same s3).same s4).pen.free hsl
  have nnl := ((((g1.trans g2).same s3).same s4).same s5).pen.free hnl
  refine ⟨_, rfl, q, _, 3, rfl, by decide, by decide, g6.pen, by omega, fun d H7 d0 d1' gd => ⟨_, _, rfl, rfl, .inr ⟨_, rfl, ?_⟩⟩⟩
  obtain ⟨kk, ek, hk⟩ := one_or (c := decide (0 < d))
  rw [ek]
  refine ⟨nl, kk, _, rfl, rfl, gd.kp.lst nnl.1 h6, by omega, by omega, sz (by show 1 * kk.toNat ≤ 100000; omega), fun r H8 hr8 s8 h8 => ?_⟩
  have rl := rep_len hk
  refine ⟨sl, r, _, _, rfl, rfl, s8 _ _ (gd.kp.lst nsl.1 (s6 _ _ h5)), h8, sz (by show 1 + _ ≤ 100000; omega), fun r2 H9 hr9 s9 h9 => ⟨szr, fun a3 H10 ha3 s10 h10 => ⟨szr, fun t3 H11 ht3 s11 h11 => ⟨szr, fun l5 H12 hl5 s12 h12 => ?_⟩⟩⟩⟩
  have S := s9.trans (s10.trans (s11.trans s12))
  refine ⟨r2, l5, _, _, rfl, rfl, s12 _ _ (s11 _ _ (s10 _ _ h9)), h12, sz (by rw [List.length_append]; show (1 + _) + 1 ≤ 100000; omega), fun r6 H13 h13n s13 h13 => ?_⟩
  obtain ⟨bs, b1, b2, b3, b4⟩ := rep_none hk (H := H13)
  have kp6 : Kp q.p H6 H13 := gd.kp.trans (Kp.same (s8.trans (S.trans s13)))
  have g13 := (((((((g6.trans gd).same s8).same s9).same s10).same s11).same s12).same s13)
  have n6 := (((((((g6.trans gd).same s8).same s9).same s10).same s11).same s12)).pen.free h13n
  have nw13 : H13 nw = some (.tup (ivs [d1, d2])) := kp6.tup (s6 _ _ (s5 _ _ (s4 _ _ h3)))
  have hst : Paired (StepV H13) (([V.ref t] ++ (List.replicate kk.toNat [V.non]).flatten) ++ [V.ref t3]) (([some (2, [d1, d2])] ++ bs) ++ [some (4, [1])]) :=
    paired_app (paired_app (.cons ⟨t, nw, rfl, kp6.tup (s6 _ _ (s5 _ _ h4)), nw13⟩ .nil) b1) (.cons ⟨t3, a3, rfl, s13 _ _ (s12 _ _ h11), s13 _ _ (s12 _ _ (s11 _ _ h10))⟩ .nil)
  -- the plan
  refine ⟨_, rfl, _, rfl, q, _, kinds, rfl, by omega, by omega, g13.pen, by omega, fun e1 H1' e10 e11 ge1 => ⟨_, rfl, _, rfl, q, _, kinds, rfl, by omega, by omega, ge1.pen, by omega, fun e2 H2' e20 e21 ge2 => ⟨szr, fun ct H3' hct s3' h3' => ?_⟩⟩⟩
  refine ⟨_, rfl, q, _, 2, rfl, by decide, by decide, ge2.pen.same s3', by omega, fun d' H4' d0' d1'' gd' => ⟨_, _, rfl, rfl, _, rfl, szr, fun r' H5' hr5 s5' h5' => ?_⟩⟩
  have gg := (((g13.trans (ge1.trans ge2)).same s3').trans gd').same s5'
  have kp : Kp q.p H13 H5' := ge1.kp.trans (ge2.kp.trans ((Kp.same s3').trans (gd'.kp.trans (Kp.same s5'))))
  refine k (.ref r') H5' ⟨[e1, e2, 0, 0, 0], 1 + d', ([some (2, [d1, d2])] ++ bs) ++ [some (4, [1])]⟩ (gg.mono (by omega)) ⟨r', ct, r6, _, rfl, h5', s5' _ _ (gd'.kp.tup h3'), n6.1, kp.lst n6.1 h13, steps_kp kp hst⟩ ?_ rfl
  refine ⟨by show 1 ≤ 5; decide, by show 5 ≤ 24; decide, fun z hz => ?_, by show 1 ≤ 1 + d'; omega, by show 1 + d' ≤ 24; omega, fun x hx => ?_, ?_, ?_⟩
  · simp only [List.mem_cons, List.not_mem_nil, or_false] at hz
    rcases hz with rfl | rfl | rfl | rfl | rfl <;> omega
  · rcases List.mem_append.mp hx with hx | hx
    · rcases List.mem_append.mp hx with hx | hx
      · rw [List.mem_singleton.mp hx]
        refine ⟨by decide, by simp, by show (2 : Int) + 2 ≤ 5; decide, fun z hz => ?_⟩
        simp only [List.mem_cons, List.not_mem_nil, or_false] at hz
        rcases hz with rfl | rfl <;> omega
      · rw [b4 x hx]
        exact True.intro
    · rw [List.mem_singleton.mp hx]
      exact ⟨by decide, by simp, by show (4 : Int) + 1 ≤ 5; decide, fun z hz => by rw [List.mem_singleton.mp hz]; decide⟩
  · show (([some (2, [d1, d2])] ++ bs) ++ [some (4, [1])] : List Stp).length ≤ 10
    rw [List.length_append, List.length_append]
    show 1 + bs.length + 1 ≤ 10
    omega
  · show tot (([some (2, [d1, d2])] ++ bs) ++ [some (4, [1])] : List Stp) ≤ 10
    rw [tot_app, tot_app, tot_one, tot_one, b3]
    show 2 + 0 + 1 ≤ 10
    decide
theorem at3 {a b c : Int} {d : Int} (h0 : 0 ≤ d) (h1 : d < 3) : ∃ v, atI [V.int a, .int b, .int c] d = some (.int v) ∧ (v = a ∨ v = b ∨ v = c) := by
  have : d = 0 ∨ d = 1 ∨ d = 2 := by omega
  rcases this with rfl | rfl | rfl
  · exact ⟨a, rfl, .inl rfl⟩
  · exact ⟨b, rfl, .inr (.inl rfl)⟩
  · exact ⟨c, rfl, .inr (.inr rfl)⟩
theorem ok_plan {f : Addr} {fd : FuncData} (F : Fun K "_law_plan" "_law_plan" s_l_plan f fd) (T : Txt mg) (c_l_draw : Cal P w K mg base 2 "_law_draw" ["_law_pen_here", "_law_under"] sp_draw)
    (c_l_log : Cal P w K mg base 3 "_law_log" ["_law_pen_here", "_law_kinds"] sp_log) (c_l_copy : Cal P w K mg base 3 "_law_copy" ["_law_pen_here", "_law_kinds"] sp_log)
    (c_l_drawn : Cal P w K mg base 4 "_law_drawn" ["_law_pen_here", "_law_many", "_law_most", "_law_kinds"] sp_drawn) :
    FnOk P w K mg base CX0 5 f fd ["_law_pen_here", "_law_most"] sp_plan := by
  refine F.ok sc_l_plan (fun vs H Q E h => ?_) (fun cdv A outer s H vs Q E hr h => ?_)
  · obtain ⟨_, _, _, rfl, _⟩ := h
    rfl
  obtain ⟨q, m, most, rfl, hP, hm, o1, o2, k⟩ := h
  refine ⟨_, (pss_cons (ps_set (i := 2) sc_l_plan.nd rfl (Or.inl rfl) (pe_cal c_l_draw hr (pa_cons (pv 0) (pa_cons pe_int pa_nil))))
    (pss_cons (ps_cut (ps_if (PW.pt (pw_and (pt_cmpR op_eq (pv 2) pe_int (nomark _)) (pw_and1 (pt_cmpR op_gt (pv 1) pe_int (nomark _)))))
      (pss_one (ps_ret (pe_cal c_l_log hr (pa_cons (pv 0) (pa_cons pe_int pa_nil)))))
      pss_nil))
    (pss_cons (ps_cut (ps_if (PW.pt (pw_and (pt_cmpR op_eq (pv 2) pe_int (nomark _)) (pw_and1 (pt_cmpR op_gt (pv 1) pe_int (nomark _)))))
      (pss_one (ps_ret (pe_cal c_l_copy hr (pa_cons (pv 0) (pa_cons pe_int pa_nil)))))
      pss_nil))
    (pss_one (ps_ret (pe_cal c_l_drawn hr (pa_cons (pv 0) (pa_cons (pe_op op_add pe_int (pe_cal c_l_draw hr (pa_cons (pv 0) (pa_cons pe_int pa_nil)))) (pa_cons (pv 1) (pa_cons (pe_ix ix_seq' (pe_lst' (pa_cons pe_int (pa_cons pe_int (pa_cons pe_int pa_nil)))) (pe_cal c_l_draw hr (pa_cons (pv 0) (pa_cons pe_int pa_nil))) (fun _ _ => rfl)) pa_nil)))))))))), ?_⟩
  refine ⟨_, rfl, q, m, 6, rfl, by decide, by decide, hP, by omega, fun d H1 d0 d1 g1 => ?_⟩
  have fall : ∀ v H' pl, Go q (m + 21) H H' → PlanV q.p H' v pl → Good 10 10 pl → pl.cs.length = 5 → Q v H' := fun v H' pl g hv gd cl => k v H' pl (g.mono (by omega)) hv (gd.mono (by omega) (by omega)) (by omega)
  refine ⟨fun σ' H' => σ' = [some (.ref q.p), some (.int most), some (.int d)] ∧ H1 = H', ?_, ?_⟩
  · refine ⟨_, rfl, rfl, _, rfl, ite2 (fun _ => ?_) (fun _ => iteF ⟨rfl, rfl⟩)⟩
    refine ⟨_, rfl, _, _, rfl, rfl, _, rfl, ite2 (fun _ => ?_) (fun _ => ⟨rfl, rfl⟩)⟩
    exact ⟨_, rfl, q, m + 1, 3, rfl, g1.pen, by omega, by decide, by decide, fun v H' pl g hv gd cl => fall v H' pl ((g1.trans g).mono (by omega)) hv gd cl⟩
  rintro _ _ ⟨rfl, rfl⟩
  refine ⟨fun σ' H' => σ' = [some (.ref q.p), some (.int most), some (.int d)] ∧ H1 = H', ?_, ?_⟩
  · refine ⟨_, rfl, rfl, _, rfl, ite2 (fun _ => ?_) (fun _ => iteF ⟨rfl, rfl⟩)⟩
    refine ⟨_, rfl, _, _, rfl, rfl, _, rfl, ite2 (fun _ => ?_) (fun _ => ⟨rfl, rfl⟩)⟩
    exact ⟨_, rfl, q, m + 1, 3, rfl, g1.pen, by omega, by decide, by decide, fun v H' pl g hv gd cl => fall v H' pl ((g1.trans g).mono (by omega)) hv gd cl⟩
  rintro _ _ ⟨rfl, rfl⟩
  refine ⟨_, rfl, _, rfl, q, m + 1, 4, rfl, by decide, by decide, g1.pen, by omega, fun c H2 c0 c1 g2 => ⟨_, _, rfl, rfl, _, rfl, szr, fun l H3 hl s3 h3 => ?_⟩⟩
  refine ⟨_, rfl, q, m + 2, 3, rfl, by decide, by decide, (g1.trans g2).pen.same s3, by omega, fun e H4 e0 e1 g4 => ?_⟩
  obtain ⟨v, hv, hv2⟩ := at3 (a := 2) (b := 3) (c := 8) e0 e1
  have nl := (g1.trans g2).pen.free hl
  refine ⟨l, _, _, _, rfl, rfl, .inl (g4.kp.lst nl.1 h3), hv, ?_⟩
  have g5 := (((g1.trans g2).same s3).trans g4)
  refine ⟨q, m + 3, 1 + c, most, v, rfl, g5.pen, by omega, by omega, by omega, by omega, o2, by omega, by omega, fun v H' pl g hv gd cl => k v H' pl ((g5.trans g).mono (by omega)) hv (gd.mono (by omega) (by omega)) (by omega)⟩
end
end Af

set_option Elab.async false
set_option linter.all false
set_option maxRecDepth 100000
namespace Af
open PySem L2
abbrev s_Plan_base : Stmt := inClass (top 28) 1
abbrev N_Plan_base : List Str := ["self"]
theorem sc_Plan_base : FnScope N_Plan_base ["self"] (defScope s_Plan_base) := ⟨rfl, rfl, rfl, by decide +kernel, rfl, by decide +kernel, by decide +kernel⟩

abbrev s_Plan_width : Stmt := inClass (top 28) 2
abbrev N_Plan_width : List Str := ["self"]
theorem sc_Plan_width : FnScope N_Plan_width ["self"] (defScope s_Plan_width) := ⟨rfl, rfl, rfl, by decide +kernel, rfl, by decide +kernel, by decide +kernel⟩

abbrev s_Plan_steps : Stmt := inClass (top 28) 3
abbrev N_Plan_steps : List Str := ["self"]
theorem sc_Plan_steps : FnScope N_Plan_steps ["self"] (defScope s_Plan_steps) := ⟨rfl, rfl, rfl, by decide +kernel, rfl, by decide +kernel, by decide +kernel⟩

abbrev s_Plan_pieces : Stmt := inClass (top 28) 4
abbrev N_Plan_pieces : List Str := ["self"]
theorem sc_Plan_pieces : FnScope N_Plan_pieces ["self"] (defScope s_Plan_pieces) := ⟨rfl, rfl, rfl, by decide +kernel, rfl, by decide +kernel, by decide +kernel⟩

abbrev s_Plan_epochs : Stmt := inClass (top 28) 5
abbrev N_Plan_epochs : List Str := ["self"]
theorem sc_Plan_epochs : FnScope N_Plan_epochs ["self"] (defScope s_Plan_epochs) := ⟨rfl, rfl, rfl, by decide +kernel, rfl, by decide +kernel, by decide +kernel⟩

/-- a plan that was made: its six fields and its lists -/
structure PlanX (C x ca sl ql el : Addr) (H : Hp) (pl : Pl) (xs ys : List V) : Prop where
  ins : ∃ dx fs, H x = some (.ins C dx fs) ∧ fs.lookup ("_base" : Str) = some (.ref ca) ∧ fs.lookup ("_width" : Str) = some (.int pl.w) ∧ fs.lookup ("_steps" : Str) = some (.ref sl) ∧
    fs.lookup ("_pieces" : Str) = some (.ref ql) ∧ fs.lookup ("_piece_epochs" : Str) = some (.ref el) ∧ fs.lookup ("_epochs" : Str) = some (.int ((bars pl.sts : Nat) + 1)) ∧ fs.lookup ("epoch_of" : Str) = none
  steps : H sl = some (.lst xs)
  pieces : H ql = some (.lst ys)
  eps : H el = some (.lst (ivs (pieceE pl.sts (allP pl.w 0 pl.sts))))
def sp_p_base (C : Addr) : Sp := fun vs H Q _ => ∃ (x ca sl ql el : Addr) (pl : Pl) (xs ys : List V), vs = [.ref x] ∧ PlanX C x ca sl ql el H pl xs ys ∧ Q (.ref ca) H
def sp_p_width (C : Addr) : Sp := fun vs H Q _ => ∃ (x ca sl ql el : Addr) (pl : Pl) (xs ys : List V), vs = [.ref x] ∧ PlanX C x ca sl ql el H pl xs ys ∧ Q (.int pl.w) H
def sp_p_steps (C : Addr) : Sp := fun vs H Q _ => ∃ (x ca sl ql el : Addr) (pl : Pl) (xs ys : List V), vs = [.ref x] ∧ PlanX C x ca sl ql el H pl xs ys ∧ ∀ l H', Same H H' → H l = none → H' l = some (.lst xs) → Q (.ref l) H'
def sp_p_pieces (C : Addr) : Sp := fun vs H Q _ => ∃ (x ca sl ql el : Addr) (pl : Pl) (xs ys : List V), vs = [.ref x] ∧ PlanX C x ca sl ql el H pl xs ys ∧ ∀ l H', Same H H' → H l = none → H' l = some (.lst ys) → Q (.ref l) H'
def sp_p_epochs (C : Addr) : Sp := fun vs H Q _ => ∃ (x ca sl ql el : Addr) (pl : Pl) (xs ys : List V), vs = [.ref x] ∧ PlanX C x ca sl ql el H pl xs ys ∧ Q (.int ((bars pl.sts : Nat) + 1)) H
section
variable {P : Program} {w : World} {K : PySem.W.Frag} {mg : Str → Option Value} {base : Heap}
theorem ok_p_base {f C : Addr} {fd : FuncData} (F : Fun K "base" "Plan.base" s_Plan_base f fd) (TC : PlanC K mg C) : FnOk P w K mg base CX0 1 f fd ["self"] (sp_p_base C) := by
  refine F.ok sc_Plan_base (fun vs H Q E h => ?_) (fun cdv A outer s H vs Q E hr h => ?_)
  · obtain ⟨_, _, _, _, _, _, _, _, rfl, _⟩ := h
    rfl
  obtain ⟨x, ca, sl, ql, el, pl, xs, ys, rfl, ⟨⟨dx, fs, hx, hB, hW, hS, hP, hE, hN, hM⟩, h1, h2, h3⟩, k⟩ := h
  refine ⟨_, (pss_one (ps_ret (pe_fld (pv 0) rfl))), ?_⟩
  exact ⟨_, rfl, x, C, dx, fs, _, rfl, hx, TC.cl, TC.nB, hB, k⟩
theorem ok_p_width {f C : Addr} {fd : FuncData} (F : Fun K "width" "Plan.width" s_Plan_width f fd) (TC : PlanC K mg C) : FnOk P w K mg base CX0 1 f fd ["self"] (sp_p_width C) := by
  refine F.ok sc_Plan_width (fun vs H Q E h => ?_) (fun cdv A outer s H vs Q E hr h => ?_)
  · obtain ⟨_, _, _, _, _, _, _, _, rfl, _⟩ := h
    rfl
  obtain ⟨x, ca, sl, ql, el, pl, xs, ys, rfl, ⟨⟨dx, fs, hx, hB, hW, hS, hP, hE, hN, hM⟩, h1, h2, h3⟩, k⟩ := h
  refine ⟨_, (pss_one (ps_ret (pe_fld (pv 0) rfl))), ?_⟩
  exact ⟨_, rfl, x, C, dx, fs, _, rfl, hx, TC.cl, TC.nW, hW, k⟩
theorem ok_p_steps {f C : Addr} {fd : FuncData} (F : Fun K "steps" "Plan.steps" s_Plan_steps f fd) (T : Txt mg) (TC : PlanC K mg C) : FnOk P w K mg base CX0 1 f fd ["self"] (sp_p_steps C) := by
  refine F.ok sc_Plan_steps (fun vs H Q E h => ?_) (fun cdv A outer s H vs Q E hr h => ?_)
  · obtain ⟨_, _, _, _, _, _, _, _, rfl, _⟩ := h
    rfl
  obtain ⟨x, ca, sl, ql, el, pl, xs, ys, rfl, ⟨⟨dx, fs, hx, hB, hW, hS, hP, hE, hN, hM⟩, h1, h2, h3⟩, k⟩ := h
  refine ⟨_, (pss_one (ps_ret (pe_callTy call_list' (by rfl) T.list (by decide +kernel) (pa_cons (pe_fld (pv 0) rfl) pa_nil)))), ?_⟩
  refine ⟨_, rfl, x, C, dx, fs, _, rfl, hx, TC.cl, TC.nS, hS, ?_⟩
  exact ⟨sl, _, rfl, .inl h1, fun c H2 hc s3 h3 => k c H2 s3 hc h3⟩
theorem ok_p_pieces {f C : Addr} {fd : FuncData} (F : Fun K "pieces" "Plan.pieces" s_Plan_pieces f fd) (T : Txt mg) (TC : PlanC K mg C) : FnOk P w K mg base CX0 1 f fd ["self"] (sp_p_pieces C) := by
  refine F.ok sc_Plan_pieces (fun vs H Q E h => ?_) (fun cdv A outer s H vs Q E hr h => ?_)
  · obtain ⟨_, _, _, _, _, _, _, _, rfl, _⟩ := h
    rfl
  obtain ⟨x, ca, sl, ql, el, pl, xs, ys, rfl, ⟨⟨dx, fs, hx, hB, hW, hS, hP, hE, hN, hM⟩, h1, h2, h3⟩, k⟩ := h
  refine ⟨_, (pss_one (ps_ret (pe_callTy call_list' (by rfl) T.list (by decide +kernel) (pa_cons (pe_fld (pv 0) rfl) pa_nil)))), ?_⟩
  refine ⟨_, rfl, x, C, dx, fs, _, rfl, hx, TC.cl, TC.nP, hP, ?_⟩
  exact ⟨ql, _, rfl, .inl h2, fun c H2 hc s3 h3 => k c H2 s3 hc h3⟩
theorem ok_p_epochs {f C : Addr} {fd : FuncData} (F : Fun K "epochs" "Plan.epochs" s_Plan_epochs f fd) (TC : PlanC K mg C) : FnOk P w K mg base CX0 1 f fd ["self"] (sp_p_epochs C) := by
  refine F.ok sc_Plan_epochs (fun vs H Q E h => ?_) (fun cdv A outer s H vs Q E hr h => ?_)
  · obtain ⟨_, _, _, _, _, _, _, _, rfl, _⟩ := h
    rfl
  obtain ⟨x, ca, sl, ql, el, pl, xs, ys, rfl, ⟨⟨dx, fs, hx, hB, hW, hS, hP, hE, hN, hM⟩, h1, h2, h3⟩, k⟩ := h
  refine ⟨_, (pss_one (ps_ret (pe_fld (pv 0) rfl))), ?_⟩
  exact ⟨_, rfl, x, C, dx, fs, _, rfl, hx, TC.cl, TC.nN, hN, k⟩
end
end Af

set_option Elab.async false
set_option linter.all false
set_option maxRecDepth 100000
namespace Af
open PySem PySem.Spec PySem.Calls PyProof.Rows PySem.SeqAt L2
open AutoSeq1 (wpAny_loadPart')
/-! a tuple times 0, 1, or more -/
theorem mul_one (l : Addr) (items : Array Value) (n : Nat) (dd : Option Addr) (sl : Array (Option Value)) (u : Tok) :
    Meets (Builtin.«tuple.__mul__» ⟨[.ref l, .int 1 u], []⟩) (fun _ R s => s.heap.get? l = some { cls := .type "tuple", dict := dd, data := .seq items n, slots := sl } ∧ R (.ok (.ret (Value.ref l))) s) :=
  .of_wp fun prog w A R s h => by
    obtain ⟨hp, g, d, tk, os⟩ := s
    obtain ⟨hl, h⟩ := h
    have f1 := AutoSeq1.idx_int
    wp_walk using wpAny_loadPart' hl
    exact ⟨_, rfl, h⟩
theorem mul_zero (l : Addr) (items : Array Value) (n : Nat) (dd : Option Addr) (sl : Array (Option Value)) (u : Tok) (hi : items.isEmpty = false) :
    Meets (Builtin.«tuple.__mul__» ⟨[.ref l, .int 0 u], []⟩) (fun _ R s => s.heap.get? l = some { cls := .type "tuple", dict := dd, data := .seq items n, slots := sl } ∧
      R (.ok (.ret (Value.ref s.heap.objs.size))) { s with heap := s.heap.push { cls := Value.type "tuple", data := Data.seq #[] }, toks := s.toks }) :=
  .of_wp fun prog w A R s h => by
    obtain ⟨hp, g, d, tk, os⟩ := s
    obtain ⟨hl, h⟩ := h
    have f1 := AutoSeq1.idx_int
    wp_walk using wpAny_loadPart' hl
    exact ⟨_, rfl, h⟩
def rRepT' : R2 := fun x y H Q => ∃ l k xs, x = .ref l ∧ y = .int k ∧ H l = some (.tup xs) ∧ xs ≠ [] ∧ 0 ≤ k ∧ k ≤ 1000 ∧ xs.length ≤ 1000 ∧ NewT (List.replicate k.toNat xs).flatten H Q
theorem op_repT' {X : Cx} : OpR X (binaryOp .Mult) rRepT' := by
  intro pins s σ H x y v u Q I rx ry h
  obtain ⟨l, k, xs, rfl, rfl, hT, ne, h1, h2, hz, q⟩ := h
  by_cases two : 2 ≤ k
  · exact op_repT pins s σ H _ _ v u Q I rx ry ⟨l, k, xs, rfl, rfl, SqT.of hT, ne, two, h2, hz, fun p hp => q p _ (same_new hp) upd_same⟩
  cases (show v = Value.ref l from rx)
  obtain ⟨t, rfl⟩ := (show ∃ t, u = Value.int k t from ry)
  obtain ⟨its, r, ⟨⟨cls, dd, data, sl⟩, ho, hc, n, hd⟩, hs⟩ := I.tuple (SqT.of hT)
  simp only at hc hd
  subst hc hd
  have many : its.length = xs.length := r.length.symm
  have some_ : its.toArray.isEmpty = false := by
    cases its with
    | nil => exact absurd (List.eq_nil_of_length_eq_zero many.symm) ne
    | cons a b => rfl
  have go : ∀ {R : Value → Shared → Prop} {E : Value → Shared → Prop}, wpAny (model X.prog X.w) X.A.in1 (call (.builtin "tuple.__mul__") [.ref l, .int k t]) R E s → True := fun _ => trivial
  rcases (show k = 0 ∨ k = 1 by omega) with rfl | rfl
  · refine wpAny_binaryOp_repeat_ref (T := "tuple") (U := "int") (by decide) ⟨_, ho, rfl⟩ (fun s' => typeIs_int s' 0 t) noFill_tuple_mul F.fills_int_mul F.slot_int_rmul repeat_tuple F.slot_int_index.lookup
      (call_meets F.slot_int_rmul (typeIs_int s 0 t) F.entry_int_rmul (F.args_int_rmul_2 _ _) (int_rmul_tuple 0 t l its.toArray n dd sl) ⟨ho, rfl, ⟨_, ho, rfl⟩, call_meets F.slot_tuple_mul ⟨_, ho, rfl⟩ F.entry_tuple_mul (F.args_tuple_mul_2 _ _) (mul_zero l its.toArray n dd sl t some_) ⟨ho, ?_⟩⟩)
    exact ⟨.ref s.heap.objs.size, _, I.laid (t' := s.toks) (o := .tup []) (fun b ob y => Heap.get?_push_of_some _ y) (Nat.le_refl _) ⟨Nat.zero_le _, [], .nil, PyProof.Rows.IsTup.new _ _⟩, rfl, q _ _ (same_new (I.hok.fresh (Nat.le_refl _))) upd_same⟩
  · refine wpAny_binaryOp_repeat_ref (T := "tuple") (U := "int") (by decide) ⟨_, ho, rfl⟩ (fun s' => typeIs_int s' 1 t) noFill_tuple_mul F.fills_int_mul F.slot_int_rmul repeat_tuple F.slot_int_index.lookup
      (call_meets F.slot_int_rmul (typeIs_int s 1 t) F.entry_int_rmul (F.args_int_rmul_2 _ _) (int_rmul_tuple 1 t l its.toArray n dd sl) ⟨ho, rfl, ⟨_, ho, rfl⟩, call_meets F.slot_tuple_mul ⟨_, ho, rfl⟩ F.entry_tuple_mul (F.args_tuple_mul_2 _ _) (mul_one l its.toArray n dd sl t) ⟨ho, ?_⟩⟩)
    refine ⟨.ref l, H, I, rfl, q l H (Same.refl H) ?_⟩
    rw [hT]
    show some (HO.tup xs) = some (HO.tup (List.replicate 1 xs).flatten)
    simp
end Af

set_option Elab.async false
set_option linter.all false
set_option maxRecDepth 100000
namespace Af
open PySem PySem.Spec PyProof.Rows L2
/-! data whose text is not long -/
/-- its text has at most b signs, it can be shown, it nests at most n deep -/
structure Bd (b n : Nat) (d : PyData) : Prop where
  tx : d.shown.length ≤ b
  sh : d.showable = true
  dp : d.depth ≤ n
theorem Bd.mono {b n b' n' : Nat} {d : PyData} (h : Bd b n d) (h1 : b ≤ b') (h2 : n ≤ n') : Bd b' n' d := ⟨Nat.le_trans h.tx h1, h.sh, Nat.le_trans h.dp h2⟩
theorem Bd.flat {d : PyData} (h : flatD d = true) : Bd 45 1 d := by
  obtain ⟨h1, h2, h3⟩ := flat_len h
  exact ⟨h1, h2, h3⟩
theorem Bd.lst {b n k : Nat} {ds : List PyData} (h : ∀ d ∈ ds, Bd b n d) (hl : ds.length ≤ k) : Bd (k * (b + 2) + 3) (n + 1) (.list ds) := by
  obtain ⟨t, _⟩ := texts_le fun d hd => (h d hd).tx
  have e : ds.length * (b + 2) ≤ k * (b + 2) := Nat.mul_le_mul_right _ hl
  have e2 : ds.length * (b + 2) = b * ds.length + 2 * ds.length := by rw [Nat.mul_add, Nat.mul_comm ds.length b, Nat.mul_comm ds.length 2]
  refine ⟨?_, ?_, ?_⟩
  · simp only [PyData.shown]
    omega
  · simp only [PyData.showable]
    exact showAll_of fun d hd => (h d hd).sh
  · simp only [PyData.depth]
    have := depthAll_of fun d hd => (h d hd).dp
    omega
theorem Bd.tup {b n k : Nat} {ds : List PyData} (h : ∀ d ∈ ds, Bd b n d) (hl : ds.length ≤ k) : Bd (k * (b + 2) + 3) (n + 1) (.tuple ds) := by
  obtain ⟨_, t⟩ := texts_le fun d hd => (h d hd).tx
  have e : ds.length * (b + 2) ≤ k * (b + 2) := Nat.mul_le_mul_right _ hl
  have e2 : ds.length * (b + 2) = b * ds.length + 2 * ds.length := by rw [Nat.mul_add, Nat.mul_comm ds.length b, Nat.mul_comm ds.length 2]
  refine ⟨?_, ?_, ?_⟩
  · simp only [PyData.shown]
    omega
  · simp only [PyData.showable]
    exact showAll_of fun d hd => (h d hd).sh
  · simp only [PyData.depth]
    have := depthAll_of fun d hd => (h d hd).dp
    omega
theorem mem_shown {ds : List PyData} {d : PyData} (h : d ∈ ds) : d.shown ∈ PyData.shownAll ds := by
  induction ds with
  | nil => simp at h
  | cons a r ih =>
    simp only [PyData.shownAll]
    rcases List.mem_cons.mp h with rfl | h
    · exact List.mem_cons_self
    · exact List.mem_cons_of_mem _ (ih h)
theorem piled_ge : ∀ ts : List Str, 2 * ts.length ≤ piled ts
  | [] => Nat.zero_le _
  | t :: ts => by
    have := piled_ge ts
    simp only [piled, List.map_cons, List.sum_cons, List.length_cons] at *
    omega
theorem th_text {K : PySem.W.Frag} {H : Hp} : ∀ {n : Nat} {x : V} {d : PyData}, Dq K H x d → d.shown.length ≤ 200000 → Th K H n x
  | 0, _, _, h, _ => dq_ty h
  | n + 1, x, d, h, sz => by
    refine ⟨dq_ty h, fun a xs e z => ?_⟩
    subst e
    have key : ∀ ds, DqAll K H xs ds → (∀ y ∈ ds, y.shown.length ≤ 200000) → 2 * ds.length ≤ 200000 → xs.length ≤ 100000 ∧ ∀ y ∈ xs, Th K H n y := fun ds t q l => by
      refine ⟨by rw [t.len]; omega, fun y hy => ?_⟩
      obtain ⟨d', m1, m2⟩ := t.mem hy
      exact th_text m2 (q d' m1)
    cases h with
    | @lst _ ys ds e t =>
      have p := piled_le_listText (PyData.shownAll ds)
      have g := piled_ge (PyData.shownAll ds)
      rw [shownAll_len] at g
      simp only [PyData.shown] at sz
      rcases z with z | z
      · rw [e] at z; cases z
      · rw [e] at z; cases z; exact key ds t (fun y hy => Nat.le_trans (listText_mem_le (mem_shown hy)) sz) (by omega)
    | @tup _ ys ds e t =>
      have p := piled_le_tupleText (PyData.shownAll ds)
      have g := piled_ge (PyData.shownAll ds)
      rw [shownAll_len] at g
      simp only [PyData.shown] at sz
      rcases z with z | z
      · rw [e] at z; cases z; exact key ds t (fun y hy => Nat.le_trans (tupleText_mem_le (mem_shown hy)) sz) (by omega)
      · rw [e] at z; cases z
    | dic e => rcases z with z | z <;> (rw [e] at z; cases z)
def few : PyData → Prop
  | .list l => l.length ≤ 100
  | _ => True
end Af

set_option Elab.async false
set_option linter.all false
set_option maxRecDepth 100000
namespace Af
open PySem PySem.Spec PyProof.Rows L2
/-! a heap without the lists that are changed -/
def hd (p : Addr) (H : Hp) : Hp := fun a => if a = p then none else H a
theorem hd_ne {p a : Addr} {H : Hp} (h : a ≠ p) : hd p H a = H a := if_neg h
theorem hd_in {p : Addr} {H : Hp} : Same (hd p H) H := fun a o e => by
  by_cases h : a = p
  · rw [h] at e
    rw [show hd p H p = none from if_pos rfl] at e
    cases e
  · rw [hd_ne h] at e
    exact e
theorem hd_same {p : Addr} {H H' : Hp} (s : Same H H') : Same (hd p H) (hd p H') := fun a o e => by
  by_cases h : a = p
  · rw [h] at e
    rw [show hd p H p = none from if_pos rfl] at e
    cases e
  · rw [hd_ne h] at e ⊢
    exact s a o e
theorem hd_kp {p : Addr} {H H' : Hp} (k : Kp p H H') : Same (hd p H) (hd p H') := fun a o e => by
  by_cases h : a = p
  · rw [h] at e
    rw [show hd p H p = none from if_pos rfl] at e
    cases e
  · rw [hd_ne h] at e ⊢
    exact k a o (.inl h) e
theorem hd_upd {p : Addr} {H : Hp} {o : HO} : hd p (upd H p o) = hd p H := funext fun a => by
  by_cases h : a = p
  · rw [h]
    exact (if_pos rfl).trans (if_pos rfl).symm
  · rw [hd_ne h, hd_ne h, upd_ne h]
theorem hd_comm {p l : Addr} {H : Hp} : hd l (hd p H) = hd p (hd l H) := funext fun a => by
  by_cases h : a = p
  · by_cases g : a = l
    · rw [show hd l (hd p H) a = none from if_pos g, show hd p (hd l H) a = none from if_pos h]
    · rw [hd_ne g, show hd p H a = none from if_pos h, show hd p (hd l H) a = none from if_pos h]
  · by_cases g : a = l
    · rw [show hd l (hd p H) a = none from if_pos g, hd_ne h, show hd l H a = none from if_pos g]
    · rw [hd_ne g, hd_ne h, hd_ne h, hd_ne g]
theorem kp_hd {p : Addr} {H : Hp} {ys : List V} (e : H p = some (.lst ys)) : Kp p H (hd p H) := fun a o n k => by
  by_cases h : a = p
  · rcases n with n | n
    · exact absurd h n
    · rw [h, e] at k
      exact absurd (Option.some.inj k).symm (n ys)
  · rw [hd_ne h]
    exact k
/-- what is new is hidden: all else stands -/
theorem same_hd {p : Addr} {H H' : Hp} (n : H p = none) (s : Same H H') : Same H (hd p H') := fun a o e => by
  rw [hd_ne (fun h => by rw [h, n] at e; cases e)]
  exact s a o e
/-- the heap G with both hidden -/
abbrev hd2 (p l : Addr) (H : Hp) : Hp := hd l (hd p H)
theorem hd2_at {p l a : Addr} {H : Hp} {o : HO} (e : H a = some o) (h1 : a ≠ p) (h2 : a ≠ l) : hd2 p l H a = some o := by
  show hd l (hd p H) a = some o
  rw [hd_ne h2, hd_ne h1]
  exact e
theorem hd2_same {p l : Addr} {H H' : Hp} (s : Same H H') : Same (hd2 p l H) (hd2 p l H') := hd_same (hd_same s)
theorem hd2_kp {p l : Addr} {H H' : Hp} (k : Kp p H H') : Same (hd2 p l H) (hd2 p l H') := hd_same (hd_kp k)
theorem hd2_upd {p l : Addr} {H : Hp} {o : HO} : hd2 p l (upd H l o) = hd2 p l H := by
  show hd l (hd p (upd H l o)) = hd l (hd p H)
  rw [hd_comm, hd_upd, hd_comm]
theorem hd2_in {p l : Addr} {H : Hp} : Same (hd2 p l H) H := fun a o e => hd_in a o (hd_in a o e)
section
variable {K : PySem.W.Frag}
theorem dq_stepV {H : Hp} {x : V} {st : Stp} (h : StepV H x st) : Dq K H x (stepD st) := by
  cases st with
  | none =>
    have e : x = V.non := h
    subst e
    exact .non
  | some fw =>
    obtain ⟨f, ws⟩ := fw
    obtain ⟨a, b, rfl, h1, h2⟩ := h
    refine .tup h1 (.cons (.int f) (.cons (.tup h2 ?_) .nil))
    clear h2
    induction ws with
    | nil => exact .nil
    | cons n ns ih => exact .cons (.int n) ih
theorem dq_ints {H : Hp} : ∀ ns : List Int, DqAll K H (ivs ns) (dvs ns)
  | [] => .nil
  | n :: ns => .cons (.int n) (dq_ints ns)
theorem dq_stepsV {H : Hp} : ∀ {xs : List V} {sts : List Stp}, Paired (StepV H) xs sts → DqAll K H xs (stepsD sts)
  | _, _, .nil => .nil
  | _, _, .cons h t => .cons (dq_stepV h) (dq_stepsV t)
theorem DqAll.app {H : Hp} : ∀ {xs ys : List V} {ds es : List PyData}, DqAll K H xs ds → DqAll K H ys es → DqAll K H (xs ++ ys) (ds ++ es)
  | _, _, _, _, .nil, h => h
  | _, _, _, _, .cons r t, h => .cons r (t.app h)
theorem DqAll.take {H : Hp} : ∀ {xs : List V} {ds : List PyData} (n : Nat), DqAll K H xs ds → DqAll K H (xs.take n) (ds.take n)
  | _, _, 0, _ => by
    rw [List.take_zero, List.take_zero]
    exact .nil
  | _, _, n + 1, .nil => .nil
  | _, _, n + 1, .cons r t => .cons r (t.take n)
theorem DqAll.drop {H : Hp} : ∀ {xs : List V} {ds : List PyData} (n : Nat), DqAll K H xs ds → DqAll K H (xs.drop n) (ds.drop n)
  | _, _, 0, h => h
  | _, _, n + 1, .nil => .nil
  | _, _, n + 1, .cons r t => t.drop n
theorem DqAll.rep {H : Hp} {x : V} {d : PyData} (h : Dq K H x d) : ∀ n : Nat, DqAll K H (List.replicate n [x]).flatten (List.replicate n d)
  | 0 => .nil
  | n + 1 => .cons h (DqAll.rep h n)
/-- a thing, told by data that is not long -/
def Tg (K : PySem.W.Frag) (G : Hp) (b n : Nat) (P : PyData → Prop) (x : V) : Prop := ∃ d, Dq K G x d ∧ Bd b n d ∧ P d
theorem Tg.same {G G' : Hp} {b n : Nat} {P : PyData → Prop} {x : V} (h : Tg K G b n P x) (s : Same G G') : Tg K G' b n P x := by
  obtain ⟨d, h1, h2, h3⟩ := h
  exact ⟨d, Dq.same s d x h1, h2, h3⟩
end
end Af

set_option Elab.async false
set_option linter.all false
set_option maxRecDepth 100000
namespace Af
open PySem PySem.Spec PyProof.Rows L2
theorem same_hd2 {p D : Addr} {H H' : Hp} (n : H D = none) (s : Same H H') : Same (hd p H) (hd2 p D H') := fun a o e => by
  have ap : a ≠ p := fun h => by
    rw [h, show hd p H p = none from if_pos rfl] at e
    cases e
  rw [hd_ne ap] at e
  exact hd2_at (s a o e) ap (fun h => by rw [h, n] at e; cases e)
theorem hd2_to {p l l' : Addr} {H H' : Hp} (n : H l' = none) (s : Same H H') : Same (hd2 p l H) (hd2 p l' H') := fun a o e => by
  have e1 := hd2_in a o e
  have ap : a ≠ p := fun h => by
    have e2 := hd_in a o e
    rw [h, show hd p H p = none from if_pos rfl] at e2
    cases e2
  exact hd2_at (s a o e1) ap (fun h => by rw [h, n] at e1; cases e1)
theorem len_stepsD : ∀ l : List Stp, (stepsD l).length = l.length
  | [] => rfl
  | a :: r => by
    show (stepsD r).length + 1 = r.length + 1
    rw [len_stepsD r]
theorem flat_small {z : Int} (h : 0 ≤ z ∧ z < 8) : flatD (.int z) = true := by
  have k : ∀ n : Fin 8, flatD (.int ((n.val : Nat) : Int)) = true := by decide +kernel
  obtain ⟨n, rfl⟩ := Int.eq_ofNat_of_zero_le h.1
  exact k ⟨n, by omega⟩
theorem flat_place {z : Int} (h : 0 ≤ z ∧ z ≤ 64) : flatD (.int z) = true := by
  have k : ∀ n : Fin 65, flatD (.int ((n.val : Nat) : Int)) = true := by decide +kernel
  obtain ⟨n, rfl⟩ := Int.eq_ofNat_of_zero_le h.1
  exact k ⟨n, by omega⟩
theorem dvs_mem {ns : List Int} {d : PyData} (h : d ∈ dvs ns) : ∃ z ∈ ns, d = .int z := by
  obtain ⟨z, hz, e⟩ := List.mem_map.mp h
  exact ⟨z, hz, e.symm⟩
theorem bd_cells {ns : List Int} (hl : ns.length ≤ 25) (h : ∀ z ∈ ns, 0 ≤ z ∧ z < 8) : Bd 1200 2 (.tuple (dvs ns)) := by
  refine (Bd.tup (b := 45) (n := 1) (k := 25) (fun d hd => ?_) (by rw [show (dvs ns).length = ns.length from List.length_map ..]; exact hl)).mono (by decide) (by decide)
  obtain ⟨z, hz, rfl⟩ := dvs_mem hd
  exact Bd.flat (flat_small (h z hz))
theorem bd_step {n : Nat} {st : Stp} (o : OkS n st) (hn : n ≤ 24) : Bd 2500 3 (stepD st) := by
  cases st with
  | none => exact (Bd.flat rfl).mono (by decide) (by decide)
  | some fw =>
    obtain ⟨f, ws⟩ := fw
    obtain ⟨o1, o2, o3, o4⟩ := o
    refine (Bd.tup (b := 1200) (n := 2) (k := 2) (ds := [.int f, .tuple (dvs ws)]) (fun d hd => ?_) (Nat.le_refl 2)).mono (by decide) (by decide)
    simp only [List.mem_cons, List.not_mem_nil, or_false] at hd
    rcases hd with rfl | rfl
    · exact (Bd.flat (flat_place ⟨o1, by omega⟩)).mono (by decide) (by decide)
    · exact bd_cells (by omega) o4
theorem stepsD_mem {n : Nat} : ∀ {l : List Stp} {d : PyData}, (∀ x ∈ l, OkS n x) → d ∈ stepsD l → ∃ st ∈ l, d = stepD st
  | [], d, _, h => by cases h
  | a :: r, d, o, h => by
    rcases List.mem_cons.mp h with rfl | h
    · exact ⟨a, List.mem_cons_self, rfl⟩
    · obtain ⟨st, h1, h2⟩ := stepsD_mem (fun x hx => o x (List.mem_cons_of_mem _ hx)) h
      exact ⟨st, List.mem_cons_of_mem _ h1, h2⟩
theorem bd_steps {n : Nat} {l : List Stp} (o : ∀ x ∈ l, OkS n x) (hn : n ≤ 24) : ∀ d ∈ stepsD l, Bd 4000 6 d := fun d hd => by
  obtain ⟨st, h1, rfl⟩ := stepsD_mem o hd
  exact (bd_step (o st h1) hn).mono (by decide) (by decide)
/-- a triple that is no plan's -/
def BadT (K : PySem.W.Frag) (good : PyData → PyData → PyData → Bool) (G : Hp) (u : V) : Prop := ∃ t b w s db dw ds, u = .ref t ∧ G t = some (.tup [b, w, s]) ∧ Dq K G b db ∧ Dq K G w dw ∧ Dq K G s ds ∧ Bd 190000 20 db ∧ Bd 190000 20 dw ∧ Bd 190000 20 ds ∧ few ds ∧ good db dw ds = false
theorem BadT.same {K : PySem.W.Frag} {good : PyData → PyData → PyData → Bool} {G G' : Hp} {u : V} (h : BadT K good G u) (s : Same G G') : BadT K good G' u := by
  obtain ⟨t, b, w, v, db, dw, ds, e, h1, h2, h3, h4, r⟩ := h
  exact ⟨t, b, w, v, db, dw, ds, e, s _ _ h1, Dq.same s _ _ h2, Dq.same s _ _ h3, Dq.same s _ _ h4, r⟩
/-- a triple that was just laid -/
theorem bad_mk {K : PySem.W.Frag} {good : PyData → PyData → PyData → Bool} {p l t : Addr} {H : Hp} {b w v : V} {db dw ds : PyData} {ys zs : List V} (hp : H p = some (.lst ys)) (hl : H l = some (.lst zs)) (ht : H t = some (.tup [b, w, v])) (h2 : Dq K (hd2 p l H) b db) (h3 : Dq K (hd2 p l H) w dw) (h4 : Dq K (hd2 p l H) v ds)
    (b1 : Bd 190000 20 db) (b2 : Bd 190000 20 dw) (b3 : Bd 190000 20 ds) (f : few ds) (bad : good db dw ds = false) : BadT K good (hd2 p l H) (.ref t) :=
  ⟨t, b, w, v, db, dw, ds, rfl, hd2_at ht (ne_of ht hp (by intro q; cases q)) (ne_of ht hl (by intro q; cases q)), h2, h3, h4, b1, b2, b3, f, bad⟩
end Af

set_option Elab.async false
set_option linter.all false
set_option maxRecDepth 100000
namespace Af
open PySem PySem.Spec PyProof.Rows L2
/-! repr of data of any kind -/
def rReprA (K : PySem.W.Frag) : List V → Hp → VK → Prop := fun xs H Q => ∃ (x : V) (d : PyData), xs = [x] ∧ Dq K H x d ∧ d.showable = true ∧ d.depth ≤ 60 ∧ d.shown.length ≤ sizeLine ∧ Q (.str d.shown) H
theorem call_reprA {X : Cx} (hg : X.A.guards = some []) (hu : X.A.units + 64 < cLine) : CallR X (.builtin "repr") (rReprA X.K) := by
  intro pins s σ H xs us Q I r h
  obtain ⟨x, d, rfl, hd, sh, dp, sz, q⟩ := h
  have hd0 := hd
  cases hd with
  | int i =>
    obtain ⟨u, rfl, ru⟩ := vals1 r
    obtain ⟨t, rfl⟩ := ru
    have lg : i.natAbs.log2 < 1920 := of_decide_eq_true (show decide (i.natAbs.log2 < 1920) = true from by simpa only [PyData.showable] using sh)
    refine PySem.P.repr_of_int lg ⟨.str _, H, I.tok _, ⟨_, rfl⟩, ?_⟩
    simpa only [PyData.shown] using q
  | non =>
    obtain ⟨u, rfl, ru⟩ := vals1 r
    cases (show u = Value.none from ru)
    refine PySem.P.repr_of_none ⟨.str _, H, I.tok _, ⟨_, rfl⟩, ?_⟩
    simpa only [PyData.shown] using q
  | bl b =>
    obtain ⟨u, rfl, ru⟩ := vals1 r
    cases (show u = Value.bool b from ru)
    refine PySem.P.repr_of_bool ⟨.str (PyData.bool b).shown, H, I.tok _, ⟨s.toks, ?_⟩, q⟩
    cases b <;> simp only [PyData.shown] <;> rfl
  | str z =>
    obtain ⟨u, rfl, ru⟩ := vals1 r
    obtain ⟨t, rfl⟩ := ru
    refine PySem.P.repr_of_str ⟨.str (PyData.str z).shown, H, I.tok _, ⟨s.toks, ?_⟩, q⟩ ?_
    · simp only [PyData.shown]
    simpa only [PyData.shown] using sz
  | @lst a xs ds e t =>
    have dp' : PyData.depthAll ds + 1 ≤ 60 := by simpa only [PyData.depth] using dp
    exact call_reprL hg hu pins s σ H _ us Q I r ⟨a, xs, ds, rfl, e, t, by simpa only [PyData.showable] using sh, by omega, sz, q⟩
  | @tup a xs ds e t =>
    have dp' : PyData.depthAll ds + 1 ≤ 60 := by simpa only [PyData.depth] using dp
    exact call_repr' hg hu pins s σ H _ us Q I r ⟨a, xs, ds, rfl, e, t, by simpa only [PyData.showable] using sh, by omega, sz, q⟩
  | @dic a ha =>
    obtain ⟨u, rfl, ru⟩ := vals1 r
    cases (show u = Value.ref a from ru)
    obtain ⟨_, hne, vs, rv, o, es, ep, h1, h2, h3, _, h4, _⟩ := dk_of I.hok ha
    cases rv
    have e : es.toList = [] := by
      cases q : es.toList with
      | nil => rfl
      | cons y l =>
        rw [q] at h4
        cases h4
    have rd : Reads s.heap (.ref a) (.dict []) ([a] ++ []) := Reads.dict (kvs := []) (as := []) (bs := []) h1 h2.1 h3 (by rw [e]; exact .nil) (by rw [e]; exact .nil)
    refine repr_of_reads' (h₀ := s.heap) rd sh (fun _ z => ?_) hg (by omega) (fun _ _ y => y) (fun h' u tk keep => ⟨.str (PyData.dict []).shown, H, I.kept keep, ⟨u, rfl⟩, q⟩) sz
    have z' : sysModules ∈ [a] := z
    rw [← List.mem_singleton.mp z'] at hne
    exact absurd hne (by simp)
end Af

set_option Elab.async false
set_option linter.all false
set_option maxRecDepth 100000
set_option maxHeartbeats 4000000
namespace Af
open PySem L2
abbrev s_Plan___eq : Stmt := inClass (top 28) 9
abbrev N_Plan___eq : List Str := ["self", "other"]
theorem sc_Plan___eq : FnScope N_Plan___eq ["self", "other"] (defScope s_Plan___eq) := ⟨rfl, rfl, rfl, by decide +kernel, rfl, by decide +kernel, by decide +kernel⟩

abbrev s_l_plan_of : Stmt := top 54
abbrev N_l_plan_of : List Str := ["_law_plan_here"]
theorem sc_l_plan_of : FnScope N_l_plan_of ["_law_plan_here"] (defScope s_l_plan_of) := ⟨rfl, rfl, rfl, by decide +kernel, rfl, by decide +kernel, by decide +kernel⟩

/-- x is a plan of the program's with these parts -/
structure PlanI (p C : Addr) (H : Hp) (x : V) (pl : Pl) : Prop where
  ex : ∃ (a dx ca sl : Addr) (fs : List (Str × V)) (xs : List V), x = .ref a ∧ H a = some (.ins C dx fs) ∧ fs.lookup ("_base" : Str) = some (.ref ca) ∧ fs.lookup ("_width" : Str) = some (.int pl.w) ∧ fs.lookup ("_steps" : Str) = some (.ref sl) ∧
    H ca = some (.tup (ivs pl.cs)) ∧ sl ≠ p ∧ H sl = some (.lst xs) ∧ Paired (StepV H) xs pl.sts
theorem PlanI.kp {p C : Addr} {H H' : Hp} {x : V} {pl : Pl} (k : Kp p H H') (h : PlanI p C H x pl) : PlanI p C H' x pl := by
  obtain ⟨a, dx, ca, sl, fs, xs, e, h1, l1, l2, l3, h2, n, h3, h4⟩ := h.ex
  exact ⟨a, dx, ca, sl, fs, xs, e, k.ins h1, l1, l2, l3, k.tup h2, n, k.lst n h3, steps_kp k h4⟩
def sp_eq (K : PySem.W.Frag) (C : Addr) : Sp := fun vs H Q _ => ∃ (p : Addr) (x y : V) (pl : Pl), vs = [x, y] ∧ PlanI p C H x pl ∧ ((∃ pl', PlanI p C H y pl' ∧ Q (.bl (samePl pl pl')) H) ∨ ∃ n, Ty K H y n ∧ Q (.bl false) H)

/-- a plan that was made, whole -/
structure PlanF (C : Addr) (H : Hp) (x : V) (pl : Pl) (sl ql el : Addr) : Prop where
  ex : ∃ a ca xs ys, x = .ref a ∧ PlanX C a ca sl ql el H pl xs ys ∧ H ca = some (.tup (ivs pl.cs)) ∧ Paired (StepV H) xs pl.sts ∧ Paired (PieceA H) ys (allP pl.w 0 pl.sts)
  ok : OkP pl
structure PlanW (p C : Addr) (H : Hp) (x : V) (pl : Pl) : Prop where
  ex : ∃ sl ql el, PlanF C H x pl sl ql el ∧ sl ≠ p ∧ ql ≠ p ∧ el ≠ p
structure PlanN (C : Addr) (H0 H : Hp) (x : V) (pl : Pl) : Prop where
  ex : ∃ sl ql el, PlanF C H x pl sl ql el ∧ H0 sl = none ∧ H0 ql = none ∧ H0 el = none
theorem PlanF.kp {p C sl ql el : Addr} {H H' : Hp} {x : V} {pl : Pl} (h : PlanF C H x pl sl ql el) (k : Kp p H H') (n1 : sl ≠ p) (n2 : ql ≠ p) (n3 : el ≠ p) : PlanF C H' x pl sl ql el := by
  obtain ⟨a, ca, xs, ys, e, ⟨⟨dx, fs, h1, h2⟩, h3, h4, h5⟩, h6, h7, h8⟩ := h.ex
  exact ⟨⟨a, ca, xs, ys, e, ⟨⟨dx, fs, k.ins h1, h2⟩, k.lst n1 h3, k.lst n2 h4, k.lst n3 h5⟩, k.tup h6, steps_kp k h7, pieceA_kp k h8⟩, h.ok⟩
theorem PlanF.same {C sl ql el : Addr} {H H' : Hp} {x : V} {pl : Pl} (h : PlanF C H x pl sl ql el) (s : Same H H') : PlanF C H' x pl sl ql el := by
  obtain ⟨a, ca, xs, ys, e, ⟨⟨dx, fs, h1, h2⟩, h3, h4, h5⟩, h6, h7, h8⟩ := h.ex
  exact ⟨⟨a, ca, xs, ys, e, ⟨⟨dx, fs, s _ _ h1, h2⟩, s _ _ h3, s _ _ h4, s _ _ h5⟩, s _ _ h6, steps_same s h7, pieceA_st s h8⟩, h.ok⟩
theorem PlanW.kp {p C : Addr} {H H' : Hp} {x : V} {pl : Pl} (h : PlanW p C H x pl) (k : Kp p H H') : PlanW p C H' x pl := by
  obtain ⟨sl, ql, el, f, n1, n2, n3⟩ := h.ex
  exact ⟨sl, ql, el, f.kp k n1 n2 n3, n1, n2, n3⟩
theorem PlanW.same {p C : Addr} {H H' : Hp} {x : V} {pl : Pl} (h : PlanW p C H x pl) (s : Same H H') : PlanW p C H' x pl := h.kp (Kp.same s)
theorem PlanN.w {p C : Addr} {H0 H : Hp} {x : V} {pl : Pl} {o : HO} (h : PlanN C H0 H x pl) (e : H0 p = some o) : PlanW p C H x pl := by
  obtain ⟨sl, ql, el, f, n1, n2, n3⟩ := h.ex
  exact ⟨sl, ql, el, f, nofree e n1 |>.symm |> fun z => z.symm, nofree e n2, nofree e n3⟩
theorem PlanW.i {p C : Addr} {H : Hp} {x : V} {pl : Pl} (h : PlanW p C H x pl) : PlanI p C H x pl := by
  obtain ⟨sl, ql, el, f, n1, n2, n3⟩ := h.ex
  obtain ⟨a, ca, xs, ys, e, ⟨⟨dx, fs, h1, h2, h2', h2'', _⟩, h3, h4, h5⟩, h6, h7, h8⟩ := f.ex
  exact ⟨a, dx, ca, sl, fs, xs, e, h1, h2, h2', h2'', h6, n1, h3, h7⟩
theorem PlanW.ok {p C : Addr} {H : Hp} {x : V} {pl : Pl} (h : PlanW p C H x pl) : OkP pl := by
  obtain ⟨_, _, _, f, _⟩ := h.ex
  exact f.ok
/-- the classes' facts of the five properties -/
structure PropC (P : Program) (w : World) (K : PySem.W.Frag) (mg : Str → Option Value) (base : Heap) (C : Addr) (f : Str) (sp : Sp) : Prop where
  ex : ∃ p g fd, PropOf K C f p g ∧ FnOk P w K mg base CX0 1 g fd ["self"] sp ∧ Binds K fd ["self"] []
theorem pe_propC {X : Cx} {C : Addr} {f : Str} {sp : Sp} {e : Expr} {pos : Pos} {ta : TE} {j : Nat} (c : Cls X.K C) (h : PropC X.prog X.w X.K X.mg X.base C f sp) (hr : Room j X.A) (he : PE X e ta) (hj : 2 ≤ j := by decide) (hab : attributeBase e f X.env (eval e X.env) = eval e X.env := by rfl) :
    PE X (.Attribute e f pos) (tProp C sp [] E0 ta) := by
  obtain ⟨p, g, fd, hp, F, b⟩ := h.ex
  exact pe_prop he c hp F (hr.mono hj) b .nil pass0 hab
def sp_plan_of (C : Addr) : Sp := fun vs H Q _ => ∃ (p : Addr) (v : V) (pl : Pl), vs = [v] ∧ PlanV p H v pl ∧ OkP pl ∧ ∀ y H', Same H H' → PlanN C H H' y pl → Q y H'

theorem made_outW {K : PySem.W.Frag} {C : Addr} {wd : Int} {pl : Pl} {H G : Hp} {Q : VK} {E : XK} {x dx ca sa : Addr} {xs : List V} (hw : wd = pl.w) (hx : H x = none) (s0 : Same H G) (gx : G x = some (.ins C dx [])) (h1 : G ca = some (.tup (ivs pl.cs))) (h2 : G sa = some (.lst xs)) (h3 : Paired (StepV G) xs pl.sts) (okp : OkP pl)
    (k : ∀ H', Same H H' → PlanN C H H' (.ref x) pl → Q .non H') : sp_initX C [.ref x, .ref ca, .int wd, .ref sa] G Q E := by
  subst hw
  refine ⟨x, dx, ca, sa, pl, xs, rfl, gx, h1, h2, h3, okp, fun H' sl ql el fs ys ko nsl nql nel hx' l1 l2 l3 l4 l5 l6 l7 hsl hql hys hel => ?_⟩
  have s1 : Same H H' := fun b u e => ko b u (ne_of_none e hx) (s0 b u e)
  have nf : ∀ {c}, G c = none → H c = none := fun {c} e => s0.free e
  have kg : ∀ {c : Addr} {l : List V}, G c = some (.tup l) → H' c = some (.tup l) := fun {c l} e => ko c _ (ne_of e gx (by intro q; cases q)) e
  have st' : Paired (StepV H') xs pl.sts := L2.Paired.mapP h3 fun v st z => by
    cases st with
    | none => exact z
    | some fw =>
      obtain ⟨f, ws⟩ := fw
      obtain ⟨a, b, e, z1, z2⟩ := z
      exact ⟨a, b, e, kg z1, kg z2⟩
  exact k H' s1 ⟨sl, ql, el, ⟨⟨x, ca, xs, ys, rfl, ⟨⟨dx, fs, hx', l1, l2, l3, l4, l5, l6, l7⟩, hsl, hql, hel⟩, kg h1, st', hys⟩, okp⟩, nf nsl, nf nql, nf nel⟩
section
variable {P : Program} {w : World} {K : PySem.W.Frag} {mg : Str → Option Value} {base : Heap}
theorem ok_eq {f C : Addr} {fd : FuncData} (F : Fun K "__eq__" "Plan.__eq__" s_Plan___eq f fd) (T : Txt mg) (TC : PlanC K mg C) : FnOk P w K mg base CX0 1 f fd ["self", "other"] (sp_eq K C) := by
  have c_Plan := TC.mgC
  refine F.ok sc_Plan___eq (fun vs H Q E h => ?_) (fun cdv A outer s H vs Q E hr h => ?_)
  · obtain ⟨_, _, _, _, rfl, _⟩ := h
    rfl
  obtain ⟨p, x, y, pl, rfl, hx, k⟩ := h
  refine ⟨_, (pss_one (ps_ret (pe_and (pe_callB call_isi (by rfl) T.isinstance (by decide +kernel) (pa_cons (pv 1) (pa_cons (pe_glob (v := .ref C) rfl c_Plan rfl) pa_nil))) (pe_and (pe_cmpR (op_eqD hr.units) (pe_fld (pv 0) rfl) (pe_fld (pv 1) rfl) (nomark _)) (pe_and (pe_cmpR (op_eqD hr.units) (pe_fld (pv 0) rfl) (pe_fld (pv 1) rfl) (nomark _)) (pe_one (pe_cmpR (op_eqD hr.units) (pe_fld (pv 0) rfl) (pe_fld (pv 1) rfl) (nomark _)))))))), ?_⟩
  obtain ⟨a, dx, ca, sl, fs, xs, rfl, h1, l1, l2, l3, h2, n, h3, h4⟩ := hx.ex
  rcases k with ⟨pl', hy, k⟩ | ⟨m, t, k⟩
  · obtain ⟨b, dy, cb, tl, gs, ys, rfl, g1, m1, m2, m3, g2, n2, g3, g4⟩ := hy.ex
    refine ⟨_, rfl, .ref b, .ref C, _, _, true, rfl, .own C, TC.ty g1, TC.is1, ?_⟩
    refine ⟨_, rfl, iteT ?_⟩
    refine ⟨_, rfl, a, C, dx, fs, _, rfl, h1, TC.cl, TC.nB, l1, _, rfl, b, C, dy, gs, _, rfl, g1, TC.cl, TC.nB, m1, ?_⟩
    refine ⟨_, _, .tup (SqT.of h2) (dp_ints _), .tup (SqT.of g2) (dp_ints _), sh_ints _, sh_ints _, _, rfl, ?_⟩
    cases e1 : PyData.eqv (.tuple (dvs pl.cs)) (.tuple (dvs pl'.cs)) with
    | false =>
      refine iteF ?_
      have : samePl pl pl' = false := by unfold samePl; rw [e1]; rfl
      rw [this] at k
      exact k
    | true =>
      refine iteT ?_
      refine ⟨_, rfl, a, C, dx, fs, _, rfl, h1, TC.cl, TC.nW, l2, _, rfl, b, C, dy, gs, _, rfl, g1, TC.cl, TC.nW, m2, ?_⟩
      refine ⟨_, _, .int _, .int _, sh_int _, sh_int _, _, rfl, ?_⟩
      cases e2 : PyData.eqv (.int pl.w) (.int pl'.w) with
      | false =>
        refine iteF ?_
        have : samePl pl pl' = false := by unfold samePl; rw [e1, e2]; rfl
        rw [this] at k
        exact k
      | true =>
        refine iteT ?_
        refine ⟨_, rfl, a, C, dx, fs, _, rfl, h1, TC.cl, TC.nS, l3, _, rfl, b, C, dy, gs, _, rfl, g1, TC.cl, TC.nS, m3, ?_⟩
        refine ⟨_, _, .lst (SqL.of h3) (dp_steps h4), .lst (SqL.of g3) (dp_steps g4), sh_steps _, sh_steps _, ?_⟩
        have : samePl pl pl' = PyData.eqv (.list (stepsD pl.sts)) (.list (stepsD pl'.sts)) := by unfold samePl; rw [e1, e2]; rfl
        rw [this] at k
        exact k
  · refine ⟨_, rfl, y, .ref C, _, _, false, rfl, .own C, .base t.ty, TC.is0 m t.mem, ?_⟩
    exact ⟨_, rfl, iteF k⟩

theorem ok_plan_of {f C fI : Addr} {fd fdI : FuncData} (F : Fun K "_law_plan_of" "_law_plan_of" s_l_plan_of f fd) (T : Txt mg) (TC : PlanC K mg C) (M_Plan : Mk K C fI)
    (G_Plan : FnOk P w K mg base CX0 6 fI fdI ["self", "base", "width", "steps"] (sp_initX C)) (b_Plan : Binds K fdI ["self", "base", "width", "steps"] []) : FnOk P w K mg base CX0 8 f fd ["_law_plan_here"] (sp_plan_of C) := by
  refine F.ok sc_l_plan_of (fun vs H Q E h => ?_) (fun cdv A outer s H vs Q E hr h => ?_)
  · obtain ⟨_, _, _, rfl, _⟩ := h
    rfl
  obtain ⟨p, v, pl, rfl, hv, gd, k⟩ := h
  refine ⟨_, (pss_one (ps_ret (pe_make M_Plan G_Plan hr rfl TC.mgC b_Plan .nil pass0 (pa_cons (pe_ix ix_seq' (pv 0) pe_int (fun _ _ => rfl)) (pa_cons (pe_ix ix_seq' (pv 0) pe_int (fun _ _ => rfl)) (pa_cons (pe_ix ix_seq' (pv 0) pe_int (fun _ _ => rfl)) pa_nil)))))), ?_⟩
  obtain ⟨a, ca, sa, xs, rfl, h1, h2, n, h3, h4⟩ := hv.ex
  refine ⟨_, rfl, a, _, _, _, rfl, rfl, .inr h1, rfl, _, rfl, a, _, _, _, rfl, rfl, .inr h1, rfl, _, rfl, a, _, _, _, rfl, rfl, .inr h1, rfl, fun x dx hx hdx ndx => ?_⟩
  have s0 : Same H (upd (upd H dx (.own x)) x (.ins C dx [])) := fun b o e => by
    rw [upd_ne (ne_of_none e hx), upd_ne (ne_of_none e hdx)]
    exact e
  exact made_outW (K := K) (pl := pl) rfl hx s0 upd_same (s0 _ _ h2) (s0 _ _ h3) (steps_same s0 h4) gd fun H' s' n => ⟨rfl, k _ H' s' n⟩
end
end Af

set_option Elab.async false
set_option linter.all false
set_option maxRecDepth 100000
namespace Af
open PySem L2
abbrev s_Plan_epoch_of : Stmt := inClass (top 28) 6
abbrev N_Plan_epoch_of : List Str := ["self", "piece"]
theorem sc_Plan_epoch_of : FnScope N_Plan_epoch_of ["self", "piece"] (defScope s_Plan_epoch_of) := ⟨rfl, rfl, rfl, by decide +kernel, rfl, by decide +kernel, by decide +kernel⟩

/-- an own exception class without an __init__ of its own -/
structure ExcC (K : PySem.W.Frag) (mg : Str → Option Value) (n : Str) (C : Addr) : Prop where
  gP : mg n = some (.ref C)
  xP : PySem.W.excIn K C [.type "ValueError", .type "Exception", .type "BaseException", .type "object"] "ValueError.__new__" = true
  kP : PySem.W.keepIn K (.ref C) = true
  bP : PySem.W.subIn K (.ref C) (.type "BaseException") = some true
  tP : PySem.W.typeIn K (.ref C) = some (.type "type")
def sp_epoch_of (K : PySem.W.Frag) (C CE : Addr) : Sp := fun vs H Q E => ∃ (x ca sl ql el : Addr) (pl : Pl) (xs ys : List V) (v : V) (n : String), vs = [.ref x, v] ∧ PlanX C x ca sl ql el H pl xs ys ∧ ys.length = (allP pl.w 0 pl.sts).length ∧ Ty K H v n ∧
  (∀ (i : Nat) (e : Int), v = .int i → (pieceE pl.sts (allP pl.w 0 pl.sts))[i]? = some e → Q (.int e) H) ∧ (idxB ys.length v = false → E (.ref CE) none H)
section
variable {P : Program} {w : World} {K : PySem.W.Frag} {mg : Str → Option Value} {base : Heap}
theorem ok_epoch_of {f C CE : Addr} {fd : FuncData} (F : Fun K "epoch_of" "Plan.epoch_of" s_Plan_epoch_of f fd) (T : Txt mg) (TC : PlanC K mg C) (X : ExcC K mg "UnknownPiece" CE)
    (c_is_index : Cal P w K mg base 2 "is_index" ["thing", "many"] (sp_is_index K)) :
    FnOk P w K mg base (L2.CX P w) 3 f fd ["self", "piece"] (sp_epoch_of K C CE) := by
  refine F.okX sc_Plan_epoch_of (fun vs H Q E h => ?_) (fun cdv A outer s H vs Q E hr h => ?_)
  · obtain ⟨_, _, _, _, _, _, _, _, _, _, rfl, _⟩ := h
    rfl
  obtain ⟨x, ca, sl, ql, el, pl, xs, ys, v, n, rfl, ⟨⟨dx, fs, hx, hB, hW, hS, hP, hE, hN, hM⟩, h1, h2, h3⟩, hlen, ht, kg, kb⟩ := h
  refine ⟨_, (pss_cons (ps_if (pt_not (pt_val (pe_cal c_is_index hr (pa_cons (pv 1) (pa_cons (pe_callB call_len' (by rfl) T.len (by decide +kernel) (pa_cons (pe_fld (pv 0) rfl) pa_nil)) pa_nil)))))
      (pss_one (ps_raise rfl (takes_of rfl rfl rfl rfl) (pmk_own PySem.F.excBase_ValueError X.xP X.gP X.kP (raises_own X.bP X.tP) rfl)))
      pss_nil)
    (pss_one (ps_ret (pe_ix ix_seq' (pe_fld (pv 0) rfl) (pv 1) (fun _ _ => rfl))))), ?_⟩
  refine ⟨_, rfl, _, rfl, x, C, dx, fs, _, rfl, hx, TC.cl, TC.nP, hP, ql, ys, rfl, .inl h2, _, _, n, rfl, ht, ?_⟩
  refine ⟨_, rfl, ?_⟩
  cases e : idxB (ys.length : Int) v with
  | false => exact kb e
  | true =>
    obtain ⟨z, rfl⟩ : ∃ z, v = .int z := by
      cases v with
      | int z => exact ⟨z, rfl⟩
      | _ => cases e
    have e' : (decide (0 ≤ z) && decide (z < (ys.length : Int))) = true := e
    rw [Bool.and_eq_true] at e'
    have z0 := of_decide_eq_true e'.1
    have z1 := of_decide_eq_true e'.2
    obtain ⟨i, rfl⟩ := Int.eq_ofNat_of_zero_le z0
    have pl' : (pieceE pl.sts (allP pl.w 0 pl.sts)).length = ys.length := by
      unfold pieceE
      rw [List.length_map, hlen]
    have il : i < (pieceE pl.sts (allP pl.w 0 pl.sts)).length := by omega
    exact ⟨_, rfl, x, C, dx, fs, _, rfl, hx, TC.cl, TC.nE, hE, _, rfl, el, _, _, _, rfl, rfl, .inl h3, atI_nat (ivs_get il), kg i _ rfl (List.getElem?_eq_getElem il)⟩
end
end Af

set_option Elab.async false
set_option linter.all false
set_option maxRecDepth 100000
namespace Af
open PySem L2
abbrev s_l_ranks : Stmt := top 48
abbrev N_l_ranks : List Str := ["_law_plan_here", "_law_part"]
theorem sc_l_ranks : FnScope N_l_ranks ["_law_plan_here"] (defScope s_l_ranks) := ⟨rfl, rfl, rfl, by decide +kernel, rfl, by decide +kernel, by decide +kernel⟩

theorem cut_to (xs : List V) (n : Nat) : cutV xs none (some (n : Int)) = xs.take n := by
  unfold cutV
  have : HT.sIx xs.length xs.length (some (n : Int)) = min n xs.length := HT.sIx_nat _ _ n
  rw [this, HT.sIx_none, List.drop_zero, Nat.sub_zero]
  by_cases h : n ≤ xs.length
  · rw [Nat.min_eq_left h]
  · rw [Nat.min_eq_right (by omega), List.take_length, List.take_of_length_le (by omega)]
theorem pe_cntK {X : Cx} {K : PySem.W.Frag} {o e : Expr} {es : List Expr} {to : TE} {t : TA} {apos cpos : Pos} (hK : X.K = K) (hu : X.A.units + 1 < cLine) (ho : PE X o to) (ha : PA X (e :: es) t)
    (hbase : attributeBase o "count" X.env (eval o X.env) = eval o X.env := by rfl)
    (hfew : ((backTo cpos (starEach (e :: es) X.env)).all (fun x => !x.1) && (backToKw cpos (keywordEach [] X.env)).all (fun x => x.1.isSome)
      && decide ((e :: es).length + ([] : List Keyword).length + (if ([] : List Keyword).isEmpty then 0 else 1) < 30)) = true := by rfl)
    (hline : (apos.endLine == cpos.line) = true := by rfl) (hs : starEach (e :: es) X.env = (false, eval e X.env) :: starEach es X.env := by rfl) (hplain : (backTo cpos (starEach es X.env)).any (·.1) = false := by rfl) :
    PE X (.Call (.Attribute o "count" apos) (e :: es) [] cpos) (tBM K "list" (rCntX K) to t) := by
  subst hK
  exact pe_bm PySem.F.plainAttrs_list PySem.F.slot_list_count PySem.F.type_list_count (mt_countX hu) ho ha hbase hfew hline hs hplain
/-- the epoch of each part, as the law counts it -/
def rnk (sts : List Stp) (ps : List (Int × (Int × List Int))) : List Int := ps.map fun p => ((bars (sts.take p.1.toNat) : Nat) : Int)
def sp_ranks : Sp := fun vs H Q _ => ∃ (a ca sa : Addr) (sp : Int) (xs : List V) (sts : List Stp), vs = [.ref a] ∧ H a = some (.tup [.ref ca, .int sp, .ref sa]) ∧ H sa = some (.lst xs) ∧ Paired (StepV H) xs sts ∧ 0 < sp ∧ xs.length ≤ 100 ∧
  (∀ f ws, some (f, ws) ∈ sts → ws.length ≤ 100) ∧ (allP sp 0 sts).length ≤ 40 ∧ ∀ l H', Same H H' → H l = none → H' l = some (.lst (ivs (rnk sts (allP sp 0 sts)))) → Q (.ref l) H'
section
variable {P : Program} {w : World} {K : PySem.W.Frag} {mg : Str → Option Value} {base : Heap}
theorem ok_ranks {f : Addr} {fd : FuncData} (F : Fun K "_law_ranks" "_law_ranks" s_l_ranks f fd) (T : Txt mg) (c_l_parts : Cal P w K mg base 2 "_law_parts" ["_law_plan_here"] sp_partsX) : FnOk P w K mg base CX0 3 f fd ["_law_plan_here"] sp_ranks := by
  refine F.ok sc_l_ranks (fun vs H Q E h => ?_) (fun cdv A outer s H vs Q E hr h => ?_)
  · obtain ⟨_, _, _, _, _, _, rfl, _⟩ := h
    rfl
  obtain ⟨a, ca, sa, sp, xs, sts, rfl, ha, hsa, hst, hsp, hxl, hw, h40, k⟩ := h
  refine ⟨_, (pss_one (ps_ret (pe_lc (own := [("_law_part", 1)]) (g := (gName 1)) (tt := tYes) rfl sc_l_ranks.nd (pi_list (pe_cal c_l_parts hr (pa_cons (pv 0) pa_nil))) (blkOk_by (own := [("_law_part", 1)]) (N := N_l_ranks) (sc := defScope s_l_ranks) (by decide +kernel)) (fun _ _ _ _ _ => pg_name (i := 1) sc_l_ranks.nd rfl (Or.inl rfl)) (fun _ _ _ _ _ => pts_nil) (fun _ _ _ _ _ => (pe_cntK (K := K) rfl (Nat.lt_of_le_of_lt (Nat.add_le_add_left (show 1 ≤ 64 by decide) _) hr.units) (pe_slice sl_list' (pe_ix ix_seq' (pv 0) pe_int (fun _ _ => rfl)) po_none (po_some (pe_ix ix_seq' (pv 1) pe_int (fun _ _ => rfl)))) (pa_cons pe_non pa_nil)))))), ?_⟩
  refine ⟨_, rfl, a, ca, sa, sp, xs, sts, rfl, ha, hsa, hst, hsp, hxl, hw, fun l H1 ys s1 hl h1 hp => ?_⟩
  have ylen : ys.length = (allP sp 0 sts).length := paired_len hp
  refine ⟨l, rfl, ⟨ys, SqL.of h1⟩, fun D hD => lc_list (K := K) (a := l) (xs := ys) (fun i H' => Same H1 H' ∧ H' D = some (.lst (ivs ((rnk sts (allP sp 0 sts)).take i)))) ?_ ?_ ?_ ?_⟩
  · exact ⟨same_new hD, upd_same⟩
  · rintro i H' _ ⟨s2, _⟩
    exact SqL.of (s2 _ _ h1)
  · rintro i y H' hy ⟨s2, h2⟩
    have il : i < ys.length := (List.getElem?_eq_some_iff.mp hy).1
    obtain ⟨p, hp1, t, b, rfl, ht, hb⟩ := paired_get hp hy
    obtain ⟨j, hj1, _, hj2⟩ := allP_in (List.mem_of_getElem? hp1)
    have ge : (rnk sts (allP sp 0 sts))[i]? = some ((bars (sts.take j) : Nat) : Int) := by
      unfold rnk
      rw [List.getElem?_map, hp1]
      show some ((bars (sts.take p.1.toNat) : Nat) : Int) = _
      rw [hj1, Int.toNat_natCast]
    have ht' := s2 _ _ ht
    rw [hj1] at ht'
    refine ⟨rfl, _, rfl, a, _, _, _, rfl, rfl, .inr (s2 _ _ (s1 _ _ ha)), rfl, _, rfl, t, _, _, _, rfl, rfl, .inr ht', rfl, _, rfl, sa, _, rfl, s2 _ _ (s1 _ _ hsa), fun c H3 hc s3 h3 => ?_⟩
    rw [cut_to] at h3
    have st3 : Paired (StepV H3) (xs.take j) (sts.take j) := paired_take j (steps_same (s1.trans (s2.trans s3)) hst)
    refine ⟨.inl ⟨rfl, _, SqL.of h3⟩, c, _, _, rfl, rfl, SqL.of h3, dp_steps st3, (lay_steps _).1, ?_⟩
    rw [bars_count]
    refine ⟨_, s3 _ _ h2, szl (by rw [ivs_len, List.length_take]; omega), same_mut (s2.trans s3) hD, ?_⟩
    rw [upd_same, List.take_add_one, ge]
    unfold ivs
    rw [List.map_append]
    rfl
  · rintro H3 ⟨s3, h3⟩
    have pl' : (rnk sts (allP sp 0 sts)).length = ys.length := by
      unfold rnk
      rw [List.length_map, ylen]
    rw [← pl', List.take_length] at h3
    exact k D H3 (s1.trans s3) (s1.free hD) h3
end
end Af

set_option Elab.async false
set_option linter.all false
namespace Af
open PySem L2
theorem sub_len : ∀ {l1 l2 : List Nat}, l1.Nodup → (∀ x ∈ l1, x ∈ l2) → l1.length ≤ l2.length
  | [], _, _, _ => Nat.zero_le _
  | x :: l1, l2, n, s => by
    obtain ⟨n1, n2⟩ := List.nodup_cons.mp n
    have h := sub_len (l2 := l2.erase x) n2 fun y hy => (List.mem_erase_of_ne (fun (e : y = x) => n1 (by rw [← e]; exact hy))).mpr (s y (List.mem_cons_of_mem _ hy))
    have hx := s x List.mem_cons_self
    rw [List.length_erase_of_mem hx] at h
    have := List.length_pos_of_mem hx
    rw [List.length_cons]
    omega
theorem all_in {l : List Nat} {c j : Nat} (n : l.Nodup) (h : ∀ x ∈ l, x < c) (hl : c ≤ l.length) (hj : j < c) : j ∈ l := by
  by_cases m : j ∈ l
  · exact m
  have q := sub_len (l1 := j :: l) (l2 := List.range c) (List.nodup_cons.mpr ⟨m, n⟩) fun x hx => by
    rcases List.mem_cons.mp hx with rfl | hx
    · exact List.mem_range.mpr hj
    · exact List.mem_range.mpr (h x hx)
  rw [List.length_range, List.length_cons] at q
  omega
def gE (es : List Int) (j : Nat) : Int := es.getD j 0
def okAt (es : List Int) (ps : List Nat) (k : Nat) : Bool := !(ps.take k).contains (ps.getD k 0) && !(List.range es.length).any fun j => decide (gE es j < gE es (ps.getD k 0)) && !(ps.take k).contains j
def lawB (es : List Int) (ps : List Nat) : Bool := (List.range ps.length).all (okAt es ps)
def fallB (es : List Int) (ps : List Nat) : Bool := decide ps.Nodup && decide (ps.map (gE es) = es.take ps.length)
theorem okAt_iff {es : List Int} {ps : List Nat} {k : Nat} (h : k < ps.length) : okAt es ps k = true ↔ ps[k] ∉ ps.take k ∧ ∀ j < es.length, gE es j < gE es ps[k] → j ∈ ps.take k := by
  have e : ps.getD k 0 = ps[k] := by
    rw [List.getD_eq_getElem?_getD, List.getElem?_eq_getElem h]
    rfl
  unfold okAt
  rw [e, Bool.and_eq_true, Bool.not_eq_true', Bool.not_eq_true', List.any_eq_false]
  constructor
  · rintro ⟨h1, h2⟩
    refine ⟨fun m => ?_, fun j hj hlt => ?_⟩
    · rw [List.contains_iff_mem.mpr m] at h1
      cases h1
    · have := h2 j (List.mem_range.mpr hj)
      by_cases m : j ∈ ps.take k
      · exact m
      · refine absurd ?_ this
        rw [decide_eq_true hlt]
        simpa using m
  · rintro ⟨h1, h2⟩
    refine ⟨by simpa using h1, fun j hj => ?_⟩
    intro z
    rw [Bool.and_eq_true] at z
    have := h2 j (List.mem_range.mp hj) (of_decide_eq_true z.1)
    rw [List.contains_iff_mem.mpr this] at z
    cases z.2
theorem take_nodup {ps : List Nat} (n : ps.Nodup) (k : Nat) : (ps.take k).Nodup := n.sublist (List.take_sublist _ _)
theorem not_before {ps : List Nat} (n : ps.Nodup) {k : Nat} (h : k < ps.length) : ps[k] ∉ ps.take k := fun m => by
  obtain ⟨j, hj⟩ := List.mem_iff_getElem?.mp m
  rw [List.getElem?_take] at hj
  by_cases hji : j < k
  · rw [if_pos hji] at hj
    obtain ⟨hjl, ej⟩ := List.getElem?_eq_some_iff.mp hj
    exact absurd ej (List.pairwise_iff_getElem.mp n j k hjl h hji)
  · rw [if_neg hji] at hj
    cases hj
theorem before_nodup {ps : List Nat} (h : ∀ k (hk : k < ps.length), ps[k] ∉ ps.take k) : ps.Nodup :=
  List.pairwise_iff_getElem.mpr fun i j hi hj l e => h j hj (by
    refine List.mem_iff_getElem?.mpr ⟨i, ?_⟩
    rw [List.getElem?_take, if_pos l, List.getElem?_eq_getElem hi, e])
theorem falls_same {es : List Int} {ps : List Nat} (so : ∀ i j, i ≤ j → j < es.length → gE es i ≤ gE es j) (hb : ∀ p ∈ ps, p < es.length) : lawB es ps = fallB es ps := by
  have gt : ∀ k, k < es.length → es[k]? = some (gE es k) := fun k hk => by
    unfold gE
    rw [List.getD_eq_getElem?_getD, List.getElem?_eq_getElem hk]
    rfl
  have ea : lawB es ps = true ↔ ∀ k (hk : k < ps.length), ps[k] ∉ ps.take k ∧ ∀ j < es.length, gE es j < gE es ps[k] → j ∈ ps.take k := by
    unfold lawB
    rw [List.all_eq_true]
    exact ⟨fun h k hk => (okAt_iff hk).mp (h k (List.mem_range.mpr hk)), fun h k hk => (okAt_iff (List.mem_range.mp hk)).mpr (h k (List.mem_range.mp hk))⟩
  have eb : fallB es ps = true ↔ ps.Nodup ∧ ps.map (gE es) = es.take ps.length := by
    unfold fallB
    rw [Bool.and_eq_true, decide_eq_true_iff, decide_eq_true_iff]
  refine Bool.eq_iff_iff.mpr (ea.trans (Iff.trans ?_ eb.symm))
  constructor
  · intro h
    have nd := before_nodup fun k hk => (h k hk).1
    have ln : ps.length ≤ es.length := by
      have := sub_len (l2 := List.range es.length) nd fun x hx => List.mem_range.mpr (hb x hx)
      rwa [List.length_range] at this
    refine ⟨nd, List.ext_getElem? fun k => ?_⟩
    rw [List.getElem?_map, List.getElem?_take]
    by_cases hk : k < ps.length
    · rw [if_pos hk, gt k (by omega), List.getElem?_eq_getElem hk]
      show some (gE es ps[k]) = some (gE es k)
      congr 1
      have hp := hb ps[k] (List.getElem_mem hk)
      have h1 : gE es ps[k] ≤ gE es k := by
        rcases Int.lt_or_le (gE es k) (gE es ps[k]) with c | c
        · have := sub_len (l1 := List.range (k + 1)) (l2 := ps.take k) List.nodup_range fun j hj => (h k hk).2 j (by have := List.mem_range.mp hj; omega) (Int.lt_of_le_of_lt (so j k (by have := List.mem_range.mp hj; omega) (by omega)) c)
          rw [List.length_range, List.length_take] at this
          omega
        · exact c
      have h2 : gE es k ≤ gE es ps[k] := by
        rcases Int.lt_or_le (gE es ps[k]) (gE es k) with c | c
        · have all : ∀ i (hi : i < ps.length), i ≤ k → gE es ps[i] ≤ gE es ps[k] := fun i hi ik => by
            rcases Int.lt_or_le (gE es ps[k]) (gE es ps[i]) with d | d
            · have m := (h i hi).2 ps[k] hp d
              refine absurd ?_ (h k hk).1
              obtain ⟨j, hj⟩ := List.mem_iff_getElem?.mp m
              rw [List.getElem?_take] at hj
              by_cases hji : j < i
              · rw [if_pos hji] at hj
                exact List.mem_iff_getElem?.mpr ⟨j, by rw [List.getElem?_take, if_pos (by omega)]; exact hj⟩
              · rw [if_neg hji] at hj
                cases hj
            · exact d
          have := sub_len (l1 := ps.take (k + 1)) (l2 := List.range k) (take_nodup nd _) fun x hx => by
            obtain ⟨j, hj⟩ := List.mem_iff_getElem?.mp hx
            rw [List.getElem?_take] at hj
            by_cases hji : j < k + 1
            · rw [if_pos hji] at hj
              obtain ⟨hjl, ej⟩ := List.getElem?_eq_some_iff.mp hj
              have a := all j hjl (by omega)
              rw [ej] at a
              refine List.mem_range.mpr ?_
              rcases Nat.lt_or_ge x k with d | d
              · exact d
              · have := so k x d (hb x (ej ▸ List.getElem_mem hjl))
                omega
            · rw [if_neg hji] at hj
              cases hj
          rw [List.length_range, List.length_take] at this
          omega
        · exact c
      omega
    · rw [if_neg hk, List.getElem?_eq_none (by omega)]
      rfl
  · rintro ⟨nd, hm⟩ k hk
    have ln : ps.length ≤ es.length := by
      have := sub_len (l2 := List.range es.length) nd fun x hx => List.mem_range.mpr (hb x hx)
      rwa [List.length_range] at this
    have at_ : ∀ i (hi : i < ps.length), gE es ps[i] = gE es i := fun i hi => by
      have q := congrArg (fun l => l[i]?) hm
      simp only [List.getElem?_map, List.getElem?_take] at q
      rw [if_pos hi, gt i (by omega), List.getElem?_eq_getElem hi] at q
      exact Option.some.inj q
    refine ⟨not_before nd hk, fun j hj hlt => ?_⟩
    rw [at_ k hk] at hlt
    have jk : j < k := by
      rcases Nat.lt_or_ge j k with d | d
      · exact d
      · have := so k j d hj
        omega
    -- the least place with an epoch as k's
    have low : ∃ c, c ≤ k ∧ (∀ i, i < c → gE es i < gE es k) ∧ ¬ gE es c < gE es k := by
      have : ∀ m, m ≤ k → (∀ i, i < m → gE es i < gE es k) → ∃ c, c ≤ k ∧ (∀ i, i < c → gE es i < gE es k) ∧ ¬ gE es c < gE es k := by
        intro m hm
        generalize e : k - m = d
        induction d generalizing m with
        | zero =>
          intro hi
          have : m = k := by omega
          subst this
          exact ⟨m, Nat.le_refl _, hi, Int.lt_irrefl _⟩
        | succ d ih =>
          intro hi
          by_cases c : gE es m < gE es k
          · exact ih (m + 1) (by omega) (by omega) fun i h => by
              rcases Nat.lt_or_ge i m with y | y
              · exact hi i y
              · have : i = m := by omega
                rw [this]
                exact c
          · exact ⟨m, hm, hi, c⟩
      exact this 0 (Nat.zero_le _) fun i h => absurd h (Nat.not_lt_zero _)
    obtain ⟨c, hc1, hc2, hc3⟩ := low
    have jc : j < c := by
      rcases Nat.lt_or_ge j c with d | d
      · exact d
      · have := so c j d hj
        omega
    have m := all_in (l := ps.take c) (c := c) (take_nodup nd _) (fun x hx => by
      obtain ⟨i, hi⟩ := List.mem_iff_getElem?.mp hx
      rw [List.getElem?_take] at hi
      by_cases ic : i < c
      · rw [if_pos ic] at hi
        obtain ⟨il, ei⟩ := List.getElem?_eq_some_iff.mp hi
        have a := at_ i il
        rw [ei] at a
        have b := hc2 i ic
        rcases Nat.lt_or_ge x c with d | d
        · exact d
        · have := so c x d (hb x (ei ▸ List.getElem_mem il))
          omega
      · rw [if_neg ic] at hi
        cases hi) (by rw [List.length_take]; omega) jc
    obtain ⟨i, hi⟩ := List.mem_iff_getElem?.mp m
    rw [List.getElem?_take] at hi
    by_cases ic : i < c
    · rw [if_pos ic] at hi
      exact List.mem_iff_getElem?.mpr ⟨i, by rw [List.getElem?_take, if_pos (by omega)]; exact hi⟩
    · rw [if_neg ic] at hi
      cases hi
end Af

set_option Elab.async false
set_option linter.all false
set_option maxRecDepth 100000
namespace Af
open PySem PySem.Spec PyProof.Rows L2
/-! len(set(xs)) of numbers, also where some are equal -/
theorem range_get (ns : List Int) : ∀ i, i ≤ ns.length → (List.range i).map (fun i => ns.getD i 0) = ns.take i
  | 0, _ => rfl
  | i + 1, h => by
    have hlt : i < ns.length := h
    rw [List.range_succ, List.map_append, range_get ns i (Nat.le_of_lt hlt), List.take_add_one, List.getElem?_eq_getElem hlt]
    show ns.take i ++ [ns.getD i 0] = ns.take i ++ [ns[i]]
    rw [List.getD_eq_getElem?_getD, List.getElem?_eq_getElem hlt]
    rfl
theorem nodup_snoc {l : List Int} {z : Int} : (l ++ [z]).Nodup ↔ l.Nodup ∧ z ∉ l := by
  unfold List.Nodup
  rw [List.pairwise_append]
  constructor
  · rintro ⟨h1, _, h3⟩
    exact ⟨h1, fun m => h3 z m z (List.mem_singleton.mpr rfl) rfl⟩
  · rintro ⟨h1, h2⟩
    exact ⟨h1, List.pairwise_singleton _ _, fun a ha b hb e => h2 (by rw [← List.mem_singleton.mp hb, ← e]; exact ha)⟩
theorem fm_len (ns : List Int) : ∀ i, i ≤ ns.length → (firstMet (fun i => ns.getD i 0) i).length ≤ i ∧ ((firstMet (fun i => ns.getD i 0) i).length = i ↔ (ns.take i).Nodup)
  | 0, _ => ⟨Nat.le_refl _, by simp [firstMet_zero]⟩
  | i + 1, h => by
    have hlt : i < ns.length := h
    obtain ⟨h1, h2⟩ := fm_len ns i (Nat.le_of_lt hlt)
    have e1 : ns.getD i 0 = ns[i] := by
      rw [List.getD_eq_getElem?_getD, List.getElem?_eq_getElem hlt]
      rfl
    have e2 : ns.take (i + 1) = ns.take i ++ [ns[i]] := by
      rw [List.take_add_one, List.getElem?_eq_getElem hlt]
      rfl
    have ea : (firstMet (fun i => ns.getD i 0) i).any (· == ns.getD i 0) = (ns.take i).any (· == ns[i]) := by
      rw [firstMet_any, range_get ns i (Nat.le_of_lt hlt), e1]
    rw [firstMet_succ, step_length, ea, e2, nodup_snoc]
    cases c : (ns.take i).any (· == ns[i]) with
    | true =>
      rw [if_pos rfl]
      obtain ⟨y, hy, ey⟩ := List.any_eq_true.mp c
      have ey2 : y = ns[i] := eq_of_beq ey
      exact ⟨by omega, ⟨fun z => by omega, fun z => absurd (ey2 ▸ hy) z.2⟩⟩
    | false =>
      rw [if_neg (by simp)]
      have no : ns[i] ∉ ns.take i := fun m => by
        have w : (ns.take i).any (· == ns[i]) = true := List.any_eq_true.mpr ⟨_, m, beq_self_eq_true ns[i]⟩
        rw [c] at w
        cases w
      exact ⟨by omega, ⟨fun z => ⟨h2.mp (by omega), no⟩, fun z => by rw [h2.mpr z.1]⟩⟩
def tLenSetA (K : PySem.W.Frag) (ta : TE) : TE := fun σ H Q => ta σ H fun x H1 => ∃ (l : Addr) (ns : List Int), x = .ref l ∧ H1 l = some (.lst (ivs ns)) ∧ ns.length ≤ 4000 ∧ ∀ c : Nat, c ≤ ns.length → (c = ns.length ↔ ns.Nodup) → Q (.int (c : Nat)) H1
theorem pe_lenSetA {X : Cx} {a : Expr} {ta : TE} {p p2 q pos : Pos} (hg : Gl X "len") (hm : X.mg "len" = none) (hg2 : Gl X "set") (hm2 : X.mg "set" = none) (ha : PE X a ta) (hc : X.calm = true := by rfl)
    (na : starEach [a] X.env = (false, eval a X.env) :: starEach [] X.env := by rfl) : PE X (.Call (.Name "len" p) [.Call (.Name "set" p2) [a] [] q] [] pos) (tLenSetA X.K ta) := by
  refine ⟨fun pins s σ H Q I h => ?_⟩
  refine Call_ (ld_blt I hg hm boot_len ?_)
  refine PyProof.Rows.callWith_builtin1 (PyProof.Rows.args_cons ?_ rfl) rfl rfl
  refine Call_ (ld_blt I hg2 hm2 boot_set ?_)
  refine PyProof.Rows.callWith_type1 (PyProof.Rows.args_cons (thn (ha.run pins s σ H _ I h) fun v s1 ⟨x, H1, I1, r1, q1⟩ => PyProof.Rows.args_nil ?_) na) na rfl
  obtain ⟨l, ns, rfl, hq, hl, q1⟩ := q1
  cases r1
  obtain ⟨its, r, pl, hz⟩ := I1.list (SqL.of hq)
  have hlen : its.toArray.size = ns.length := by rw [List.size_toArray, ← r.length]; exact List.length_map _
  refine call_set_list (I1.ok.hd hc) pl.isList (by simpa using RZ.intsAre_vals r) (by rw [hlen]; unfold scanBound; omega) fun h' tk hS hk => ?_
  refine PyProof.Rows.args_nil ?_
  rw [hlen] at hS
  obtain ⟨f1, f2⟩ := fm_len ns ns.length (Nat.le_refl _)
  rw [List.take_length] at f2
  obtain ⟨o, es, ep, t, ho, hex, hd, _, _, _, hf, hn⟩ := hS
  have I2 : Inv X pins σ H1 { s1 with heap := h', toks := tk } := I1.kept fun b o e => hk b o (Heap.lt_size e) e
  exact call_len_set ho hex hd hf (by rw [hn] <;> omega) ⟨.int ((firstMet (fun i => ns.getD i 0) ns.length).length : Nat), H1, I2.tok _, ⟨_, by rw [hn]⟩, q1 _ f1 f2⟩
end Af

set_option Elab.async false
set_option linter.all false
set_option maxRecDepth 100000
namespace Af
open PySem PySem.Spec PyProof.Rows L2
/-! a method called where its error is caught -/
section
variable {X : Cx} {CX : CXT} {k : Nat} {f C : Addr} {fd : FuncData} {ps : List Str} {sp : Sp} {E : L2.St → XK} {m : Str} {pos apos : Pos} {e o : Expr} {es : List Expr} {ta : TE} {t : TA}
def tMethX (C : Addr) (m : Str) (sp : Sp) (E : L2.St → XK) (ta : TE) (t : TA) : TE := fun σ H Q => ta σ H fun x G => ∃ a dx fs, x = .ref a ∧ G a = some (.ins C dx fs) ∧ fs.lookup m = none ∧ t σ G fun vs G2 => sp (x :: vs) G2 Q (E σ)
theorem pe_methX {pl : Sem Bool} (he : PE X o ta) (c : Cls X.K C) (hm : Meth X.K C m f) (F : FnOk X.prog X.w X.K X.mg X.base CX k f fd ps sp) (room : Room k X.A) (b : Binds X.K fd ps []) (out : ∀ σ, PassesAt CX X σ (E σ)) (ha : PA X (e :: es) t)
    (h1 : starEach (e :: es) X.env = (false, eval e X.env) :: starEach es X.env := by rfl) (h2 : (backTo pos (starEach es X.env)).any (·.1) = false := by rfl)
    (h3 : eval (.Call (.Attribute o m apos) (e :: es) [] pos) X.env = (do
      let v ← eval o X.env
      standAt apos.atName
      let (g, own) ← holding [v] (getMethod v m pl)
      callWith pos g own (backTo pos (starEach (e :: es) X.env)) (backToKw pos (keywordEach [] X.env))) := by rfl) :
    PE X (.Call (.Attribute o m apos) (e :: es) [] pos) (tMethX C m sp E ta t) := by
  refine ⟨fun pins s σ H Q I h => PySem.W.methodCall_KW (pl := pl) (thn (he.run pins s σ H _ I h) fun u s1 z => ?_) h3⟩
  obtain ⟨x, G, I1, rx, a, dx, fs, ex, ea, l, q⟩ := z
  subst ex
  obtain rfl : u = Value.ref a := rx
  refine getmeth_ok I1 ea c hm l (PySem.W.callWith_K (first := [.ref a]) (h₀ := X.base) I.ok.mod.kin hm.kp (thn (ha.run pos pins s1 σ G _ I1 q) fun us s2 z => ?_) h1 h2)
  obtain ⟨vs, G2, I2, r, q2⟩ := z
  exact ⟨I2.kIn, run_fnS (us := .ref a :: us) (vs := .ref a :: vs) F room b (out σ) I2 (.cons rfl r) q2⟩
end
end Af

set_option Elab.async false
set_option linter.all false
set_option maxRecDepth 100000
set_option maxHeartbeats 4000000
namespace Af
open PySem L2
abbrev s_piece_epochs : Stmt := top 29
abbrev N_piece_epochs : List Str := ["plan", "piece"]
theorem sc_piece_epochs : FnScope N_piece_epochs ["plan"] (defScope s_piece_epochs) := ⟨rfl, rfl, rfl, by decide +kernel, rfl, by decide +kernel, by decide +kernel⟩

abbrev s_is_fall : Stmt := top 31
abbrev N_is_fall : List Str := ["plan", "thing", "epochs", "piece"]
theorem sc_is_fall : FnScope N_is_fall ["plan", "thing"] (defScope s_is_fall) := ⟨rfl, rfl, rfl, by decide +kernel, rfl, by decide +kernel, by decide +kernel⟩

theorem eps_get : ∀ (l : List Stp) (k i : Nat), i < l.length → (eps k l)[i]? = some ((k + bars (l.take i) : Nat) : Int)
  | [], _, _, h => absurd h (Nat.not_lt_zero _)
  | a :: l, k, 0, _ => rfl
  | a :: l, k, i + 1, h => by
    show (eps (if a.isNone = true then k + 1 else k) l)[i]? = _
    rw [eps_get l _ i (Nat.lt_of_succ_lt_succ h)]
    have e : bars ((a :: l).take (i + 1)) = bars (l.take i) + (if a.isNone = true then 1 else 0) := by
      show bars (a :: l.take i) = _
      unfold bars
      rw [List.countP_cons]
    rw [e]
    cases a with
    | none =>
      show some (((k + 1 + bars (l.take i) : Nat) : Int)) = some ((k + (bars (l.take i) + 1) : Nat) : Int)
      congr 2
      omega
    | some fw => rfl
theorem pieceE_rnk {w : Int} (sts : List Stp) : pieceE sts (allP w 0 sts) = rnk sts (allP w 0 sts) := by
  unfold pieceE rnk
  refine List.map_congr_left fun p hp => ?_
  obtain ⟨j, hj1, _, hj2⟩ := allP_in hp
  rw [hj1, Int.toNat_natCast, eps_get sts 0 j (by omega), Nat.zero_add]
  rfl
theorem PlanX.px {C x ca sl ql el : Addr} {H : Hp} {pl : Pl} {xs ys : List V} (h : PlanX C x ca sl ql el H pl xs ys) : ∃ dx fs, H x = some (.ins C dx fs) ∧ fs.lookup ("epoch_of" : Str) = none := by
  obtain ⟨⟨dx, fs, a, b⟩, c⟩ := h
  obtain ⟨_, _, _, _, _, _, q⟩ := b
  exact ⟨dx, fs, a, q⟩
theorem PlanX.same {C x ca sl ql el : Addr} {H H' : Hp} {pl : Pl} {xs ys : List V} (h : PlanX C x ca sl ql el H pl xs ys) (s : Same H H') : PlanX C x ca sl ql el H' pl xs ys := by
  obtain ⟨⟨dx, fs, h1, h2⟩, h3, h4, h5⟩ := h
  exact ⟨⟨dx, fs, s _ _ h1, h2⟩, s _ _ h3, s _ _ h4, s _ _ h5⟩
theorem passN {P : Program} {w : World} {X : Cx} (hp : X.prog = P) (hw : X.w = w) (σ : L2.St) : PassesAt (L2.CX P w) X σ E0 := by
  subst hp hw
  intro pins H s e s' I c
  obtain ⟨_, _, _, _, _, _, _, _, _, _, _, _, q⟩ := c
  exact q.elim
/-- the pieces' epochs -/
def rkP (pl : Pl) : List Int := rnk pl.sts (allP pl.w 0 pl.sts)
theorem rkP_len (pl : Pl) : (rkP pl).length = (allP pl.w 0 pl.sts).length := by
  unfold rkP rnk
  rw [List.length_map]
def sp_pe (C : Addr) : Sp := fun vs H Q _ => ∃ (x : V) (pl : Pl) (sl ql el : Addr), vs = [x] ∧ PlanF C H x pl sl ql el ∧ ∀ l H', Same H H' → H l = none → H' l = some (.lst (ivs (rkP pl))) → Q (.ref l) H'
/-! is_fall told of things -/
def toN : V → Nat
  | .int i => i.toNat
  | _ => 0
def fallV (es : List Int) (H : Hp) : V → Bool
  | .ref a => match H a with
    | some (.lst xs) => xs.all (idxB es.length) && fallB es (xs.map toN)
    | _ => false
  | _ => false
def lawV (es : List Int) (H : Hp) : V → Bool
  | .ref a => match H a with
    | some (.lst xs) => xs.all (idxB es.length) && lawB es (xs.map toN)
    | _ => false
  | _ => false
theorem fallV_at {es : List Int} {H : Hp} {a : Addr} {xs : List V} (h : H a = some (.lst xs)) : fallV es H (.ref a) = (xs.all (idxB es.length) && fallB es (xs.map toN)) := by
  unfold fallV
  simp only [h]
theorem lawV_at {es : List Int} {H : Hp} {a : Addr} {xs : List V} (h : H a = some (.lst xs)) : lawV es H (.ref a) = (xs.all (idxB es.length) && lawB es (xs.map toN)) := by
  unfold lawV
  simp only [h]
theorem fallV_not {K : PySem.W.Frag} {es : List Int} {H : Hp} {x : V} {n : String} (t : Ty K H x n) (c : n ≠ "list") : fallV es H x = false := by
  cases x with
  | ref a =>
    unfold fallV
    simp only
    split
    · rename_i e3
      exact absurd (ty_is_lst t e3) c
    · rfl
  | _ => rfl
theorem lawV_not {K : PySem.W.Frag} {es : List Int} {H : Hp} {x : V} {n : String} (t : Ty K H x n) (c : n ≠ "list") : lawV es H x = false := by
  cases x with
  | ref a =>
    unfold lawV
    simp only
    split
    · rename_i e3
      exact absurd (ty_is_lst t e3) c
    · rfl
  | _ => rfl
theorem idx_all {m : Nat} : ∀ {xs : List V}, xs.all (idxB m) = true → xs = ivs ((xs.map toN).map fun p => ((p : Nat) : Int)) ∧ ∀ p ∈ xs.map toN, p < m
  | [], _ => ⟨rfl, fun _ h => by cases h⟩
  | x :: xs, h => by
    rw [List.all_cons, Bool.and_eq_true] at h
    obtain ⟨h1, h2⟩ := idx_all h.2
    cases x with
    | int i =>
      have e' : (decide (0 ≤ i) && decide (i < (m : Int))) = true := h.1
      rw [Bool.and_eq_true] at e'
      have z0 := of_decide_eq_true e'.1
      have z1 := of_decide_eq_true e'.2
      refine ⟨?_, fun p hp => ?_⟩
      · show V.int i :: xs = V.int ((i.toNat : Nat) : Int) :: _
        rw [Int.toNat_of_nonneg z0]
        exact congrArg (V.int i :: ·) h1
      · rcases List.mem_cons.mp hp with rfl | hp
        · show i.toNat < m
          omega
        · exact h2 p hp
    | _ => cases h.1
/-- a thing whose parts, if it is a list, are things -/
def Ob (K : PySem.W.Frag) (H : Hp) (v : V) : Prop := Th K H 1 v ∧ ∀ a xs, v = .ref a → H a = some (.lst xs) → xs.length ≤ 200
def sp_is_fall (K : PySem.W.Frag) (C : Addr) : Sp := fun vs H Q _ => ∃ (x v : V) (pl : Pl) (sl ql el : Addr), vs = [x, v] ∧ PlanF C H x pl sl ql el ∧ Ob K H v ∧ ∀ H', Same H H' → Q (.bl (fallV (rkP pl) H v)) H'
theorem nodup_cast {ps : List Nat} : (ps.map fun p => ((p : Nat) : Int)).Nodup ↔ ps.Nodup := by
  unfold List.Nodup
  rw [List.pairwise_map]
  constructor
  · intro h
    exact h.imp fun k e => k (by rw [e])
  · intro h
    exact h.imp fun k e => k (by omega)
section
variable {P : Program} {w : World} {K : PySem.W.Frag} {mg : Str → Option Value} {base : Heap}
theorem ok_pe {f C CE fI : Addr} {fd fdI : FuncData} (F : Fun K "piece_epochs" "piece_epochs" s_piece_epochs f fd) (T : Txt mg) (TC : PlanC K mg C) (M_eo : Meth K C "epoch_of" fI)
    (G_eo : FnOk P w K mg base (L2.CX P w) 3 fI fdI ["self", "piece"] (sp_epoch_of K C CE)) (b_eo : Binds K fdI ["self", "piece"] [])
    (P_pieces : PropC P w K mg base C "pieces" (sp_p_pieces C)) : FnOk P w K mg base CX0 4 f fd ["plan"] (sp_pe C) := by
  refine F.ok sc_piece_epochs (fun vs H Q E h => ?_) (fun cdv A outer s H vs Q E hr h => ?_)
  · obtain ⟨_, _, _, _, _, rfl, _⟩ := h
    rfl
  obtain ⟨xv, pl, sl, ql, el, rfl, pF, k⟩ := h
  obtain ⟨x, ca, xs, ys, rfl, px, hca, hxs, hys⟩ := pF.ex
  have o := pF.ok
  obtain ⟨dx, fs, hx, hM⟩ := px.px
  have yl := paired_len hys
  have pel : (pieceE pl.sts (allP pl.w 0 pl.sts)).length = ys.length := by
    unfold pieceE
    rw [List.length_map, yl]
  refine ⟨_, (pss_one (ps_ret (pe_lc (own := [("piece", 1)]) (g := (gName 1)) (tt := tYes) rfl sc_piece_epochs.nd (pi_range1 rfl T.range (pa_cons (pe_callB call_len' (by rfl) T.len (by decide +kernel) (pa_cons (pe_propC TC.cl P_pieces hr (pv 0)) pa_nil)) pa_nil)) (blkOk_by (own := [("piece", 1)]) (N := N_piece_epochs) (sc := defScope s_piece_epochs) (by decide +kernel)) (fun _ _ _ _ _ => pg_name (i := 1) sc_piece_epochs.nd rfl (Or.inl rfl)) (fun _ _ _ _ _ => pts_nil) (fun _ _ _ _ _ => (pe_methX (E := fun _ => E0) (pl := _) (pv 0) TC.cl M_eo G_eo (hr.mono (by decide)) b_eo (passN rfl rfl) (pa_cons (pv 1) pa_nil)))))), ?_⟩
  refine ⟨_, rfl, x, dx, fs, rfl, hx, x, ca, sl, ql, el, pl, xs, ys, rfl, px, fun l1 H1 s1 n1 h1 => ?_⟩
  have px1 := px.same s1
  refine ⟨l1, _, rfl, .inl h1, _, rfl, ?_, ?_, fun D hD => lc_range (lo := 0) (fun i H' => Same H1 H' ∧ H' D = some (.lst (ivs ((pieceE pl.sts (allP pl.w 0 pl.sts)).take i)))) ?_ ?_ ?_⟩
  · omega
  · have := o.pc
    omega
  · exact ⟨same_new hD, upd_same⟩
  · rintro j H8 hj ⟨s8, h8⟩
    have hj' : j < ys.length := by omega
    have px8 := px1.same s8
    refine ⟨rfl, _, rfl, x, dx, fs, rfl, s8 _ _ (s1 _ _ hx), hM, _, rfl, x, ca, sl, ql, el, pl, xs, ys, _, "int", rfl, px8, yl, ⟨.int _, by decide, fun _ _ _ e => by cases e⟩, fun j' e hv he => ?_, fun z => ?_⟩
    · have ej : j' = j := by
        have z : (0 : Int) + (j : Int) = (j' : Int) := by injection hv
        omega
      subst ej
      refine ⟨_, h8, szl (by rw [ivs_len, List.length_take]; have := o.pc; omega), same_mut s8 hD, ?_⟩
      rw [upd_same, List.take_add_one, he]
      unfold ivs
      rw [List.map_append]
      rfl
    · have : idxB (ys.length : Int) (.int (0 + (j : Int))) = true := by
        show (decide (0 ≤ 0 + (j : Int)) && decide (0 + (j : Int) < ys.length)) = true
        rw [decide_eq_true (by omega), decide_eq_true (by omega)]
        rfl
      rw [this] at z
      cases z
  rintro H8 ⟨s8, h8⟩
  rw [List.take_of_length_le (by rw [pel]; omega), pieceE_rnk] at h8
  exact k D H8 (s1.trans s8) (s1.free hD) h8
end
end Af

set_option Elab.async false
set_option linter.all false
set_option maxRecDepth 100000
set_option maxHeartbeats 4000000
namespace Af
open PySem L2
abbrev s_l_is_whole : Stmt := top 45
abbrev N_l_is_whole : List Str := ["_law_thing", "_law_low", "_law_under"]
theorem sc_l_is_whole : FnScope N_l_is_whole ["_law_thing", "_law_low", "_law_under"] (defScope s_l_is_whole) := ⟨rfl, rfl, rfl, by decide +kernel, rfl, by decide +kernel, by decide +kernel⟩

abbrev s_l_is_fall : Stmt := top 55
abbrev N_l_is_fall : List Str := ["_law_plan_here", "_law_thing", "_law_ranks_here", "_law_k", "_law_one", "_law_j"]
theorem sc_l_is_fall : FnScope N_l_is_fall ["_law_plan_here", "_law_thing"] (defScope s_l_is_fall) := ⟨rfl, rfl, rfl, by decide +kernel, rfl, by decide +kernel, by decide +kernel⟩

theorem op_inK {X : Cx} {K : PySem.W.Frag} (hK : X.K = K) : OpR X (compareOp .In) (rIn K false) := by
  subst hK
  exact op_in_seq
theorem op_notInK {X : Cx} {K : PySem.W.Frag} (hK : X.K = K) : OpR X (compareOp .NotIn) (rIn K true) := by
  subst hK
  exact op_notIn_seq
theorem in_ivs (z : Int) : ∀ cs : List Int, inV (.int z) (ivs cs) = cs.contains z
  | [] => rfl
  | c :: cs => by
    show (eqV (.int c) (.int z) || inV (.int z) (ivs cs)) = _
    rw [in_ivs z cs, List.contains_cons]
    congr 1
    show (c == z) = (z == c)
    exact BEq.comm
theorem flat_ivs (cs : List Int) : (ivs cs).all flatV = true := List.all_eq_true.mpr fun x hx => by
  obtain ⟨z, _, rfl⟩ := List.mem_map.mp hx
  rfl
/-- numbers that are no less than nought, as things -/
def nvs (ps : List Nat) : List V := ivs (ps.map fun p => ((p : Nat) : Int))
theorem nvs_len (ps : List Nat) : (nvs ps).length = ps.length := by
  unfold nvs
  rw [ivs_len, List.length_map]
theorem nvs_get {ps : List Nat} {k : Nat} (h : k < ps.length) : (nvs ps)[k]? = some (.int ((ps[k] : Nat) : Int)) := by
  unfold nvs ivs
  rw [List.getElem?_map, List.getElem?_map, List.getElem?_eq_getElem h]
  rfl
theorem in_nvs (z : Nat) : ∀ ps : List Nat, inV (.int (z : Int)) (nvs ps) = ps.contains z
  | [] => rfl
  | c :: cs => by
    show (eqV (.int (c : Int)) (.int (z : Int)) || inV (.int (z : Int)) (nvs cs)) = _
    rw [in_nvs z cs, List.contains_cons]
    congr 1
    show ((c : Int) == (z : Int)) = (z == c)
    rw [Bool.eq_iff_iff, beq_iff_eq, beq_iff_eq]
    omega
theorem nvs_take (ps : List Nat) (k : Nat) : (nvs ps).take k = nvs (ps.take k) := by
  unfold nvs ivs
  rw [← List.map_take, ← List.map_take]
theorem shl_ints (ns : List Int) : SeqAt.shaped (.list (dvs ns)) = true := sh_ints ns
theorem eqvAll_dvs : ∀ a b : List Int, PyData.eqvAll (dvs a) (dvs b) = decide (a = b)
  | [], [] => rfl
  | [], _ :: _ => rfl
  | _ :: _, [] => rfl
  | x :: a, y :: b => by
    show (PyData.eqv (.int x) (.int y) && PyData.eqvAll (dvs a) (dvs b)) = _
    rw [eqvAll_dvs a b]
    have e : PyData.eqv (.int x) (.int y) = decide (x = y) := rfl
    rw [e, Bool.eq_iff_iff, Bool.and_eq_true, decide_eq_true_iff, decide_eq_true_iff, decide_eq_true_iff, List.cons.injEq]
theorem eqv_dvs (a b : List Int) : PyData.eqv (.list (dvs a)) (.list (dvs b)) = decide (a = b) := eqvAll_dvs a b
def sp_whole (K : PySem.W.Frag) : Sp := fun vs H Q _ => ∃ (x : V) (m : Int) (n : String), vs = [x, .int 0, .int m] ∧ Ty K H x n ∧ Q (.bl (idxB m x)) H
def sp_lis_fall (K : PySem.W.Frag) : Sp := fun vs H Q _ => ∃ (a ca sa : Addr) (sp : Int) (xs : List V) (sts : List Stp) (v : V), vs = [.ref a, v] ∧ H a = some (.tup [.ref ca, .int sp, .ref sa]) ∧ H sa = some (.lst xs) ∧ Paired (StepV H) xs sts ∧ 0 < sp ∧ xs.length ≤ 100 ∧
  (∀ f ws, some (f, ws) ∈ sts → ws.length ≤ 100) ∧ (allP sp 0 sts).length ≤ 40 ∧ Ob K H v ∧ ∀ H', Same H H' → Q (.bl (lawV (rnk sts (allP sp 0 sts)) H v)) H'
section
variable {P : Program} {w : World} {K : PySem.W.Frag} {mg : Str → Option Value} {base : Heap}
theorem ok_is_fall {f C : Addr} {fd : FuncData} (F : Fun K "is_fall" "is_fall" s_is_fall f fd) (T : Txt mg) (t_set : mg "set" = none) (c_piece_epochs : Cal P w K mg base 4 "piece_epochs" ["plan"] (sp_pe C))
    (c_is_index : Cal P w K mg base 2 "is_index" ["thing", "many"] (sp_is_index K)) : FnOk P w K mg base CX0 5 f fd ["plan", "thing"] (sp_is_fall K C) := by
  refine F.ok sc_is_fall (fun vs H Q E h => ?_) (fun cdv A outer s H vs Q E hr h => ?_)
  · obtain ⟨_, _, _, _, _, _, rfl, _⟩ := h
    rfl
  obtain ⟨xv, v, pl, sl, ql, el, rfl, pF, ⟨th, hlv⟩, k⟩ := h
  obtain ⟨n, t⟩ := th.ty
  have rl : (rkP pl).length ≤ 40 := by rw [rkP_len]; exact pF.ok.pc
  refine ⟨_, (pss_cons (ps_set (i := 2) sc_is_fall.nd rfl (Or.inr rfl) (pe_cal c_piece_epochs hr (pa_cons (pv 0) pa_nil)))
    (pss_cons (ps_cut (ps_if (PW.pt (pw_or (pt_not (pt_val (pe_callB call_isi' (by rfl) T.isinstance (by decide +kernel) (pa_cons (pv 1) (pa_cons (pe_bltn (v := .ty "list") (by rfl) T.list (by decide +kernel) rfl) pa_nil))))) (pw_or1 (pt_not (pt_val (pe_callB (cr_all rfl) (by rfl) T.all (by decide +kernel) (pa_cons (pe_lc (own := [("piece", 3)]) (g := (gName 3)) (tt := tYes) rfl sc_is_fall.nd (pi_list (pv 1)) (blkOk_by (own := [("piece", 3)]) (N := N_is_fall) (sc := defScope s_is_fall) (by decide +kernel)) (fun _ _ _ _ _ => pg_name (i := 3) sc_is_fall.nd rfl (Or.inl rfl)) (fun _ _ _ _ _ => pts_nil) (fun _ _ _ _ _ => (pe_cal c_is_index hr (pa_cons (pv 3) (pa_cons (pe_callB call_len' (by rfl) T.len (by decide +kernel) (pa_cons (pv 2) pa_nil)) pa_nil))))) pa_nil)))))))
      (pss_one (ps_ret pe_bl))
      pss_nil))
    (pss_cons (ps_if (pt_cmpR op_lt (pe_lenSetA (by rfl) T.len (by rfl) t_set (pv 1)) (pe_callB call_len' (by rfl) T.len (by decide +kernel) (pa_cons (pv 1) pa_nil)) (nomark _))
      (pss_one (ps_ret pe_bl))
      pss_nil)
    (pss_one (ps_ret (pe_cmpR (op_eqD hr.units) (pe_lc (own := [("piece", 3)]) (g := (gName 3)) (tt := tYes) rfl sc_is_fall.nd (pi_list (pv 1)) (blkOk_by (own := [("piece", 3)]) (N := N_is_fall) (sc := defScope s_is_fall) (by decide +kernel)) (fun _ _ _ _ _ => pg_name (i := 3) sc_is_fall.nd rfl (Or.inl rfl)) (fun _ _ _ _ _ => pts_nil) (fun _ _ _ _ _ => (pe_ix ix_seq' (pv 2) (pv 3) (fun _ _ => rfl)))) (pe_slice sl_list' (pv 2) po_none (po_some (pe_callB call_len' (by rfl) T.len (by decide +kernel) (pa_cons (pv 1) pa_nil)))) (nomark _))))))), ?_⟩
  refine ⟨_, rfl, xv, pl, sl, ql, el, rfl, pF, fun l1 H1 s1 n1 h1 => ?_⟩
  refine ⟨fun σ' H' => ∃ a xs, v = .ref a ∧ H a = some (.lst xs) ∧ xs.all (idxB (rkP pl).length) = true ∧ σ' = [some xv, some v, some (.ref l1), none] ∧ Same H H' ∧ H' l1 = some (.lst (ivs (rkP pl))), ?_, ?_⟩
  · refine ⟨_, rfl, v, n, "list", rfl, t.same s1, by decide, _, rfl, ?_⟩
    by_cases c : n = "list"
    · obtain ⟨a, xs, rfl, ha⟩ := ty_lst t c
      have hl := hlv a xs rfl ha
      obtain ⟨_, hy⟩ := th.2 a xs rfl (.inr ha)
      have e : isB n "list" = true := by rw [c]; decide
      rw [e]
      refine ⟨_, rfl, a, rfl, ⟨xs, SqL.of (s1 _ _ ha)⟩, fun D hD => lc_list (K := K) (a := a) (xs := xs) (fun i H' => Same H1 H' ∧ H' D = some (.lst ((xs.take i).map fun y => V.bl (idxB (rkP pl).length y)))) ?_ ?_ ?_ ?_⟩
      · exact ⟨same_new hD, upd_same⟩
      · rintro i H' _ ⟨s2, _⟩
        exact SqL.of (s2 _ _ (s1 _ _ ha))
      · rintro i y H' hx ⟨s2, h2⟩
        obtain ⟨m, ty⟩ := hy y (List.mem_of_getElem? hx)
        have il : i < xs.length := (List.getElem?_eq_some_iff.mp hx).1
        refine ⟨rfl, _, rfl, _, rfl, l1, _, rfl, .inl (s2 _ _ h1), ?_⟩
        rw [ivs_len]
        refine ⟨y, _, m, rfl, ty.same (s1.trans s2), _, h2, ?_, same_mut s2 hD, ?_⟩
        · rw [List.length_map, List.length_take]
          exact szl (by omega)
        · rw [upd_same, List.take_add_one, hx]
          simp
      · rintro H' ⟨s2, h2⟩
        rw [List.take_length] at h2
        have z := k H' (s1.trans s2)
        rw [fallV_at ha] at z
        refine ⟨D, xs.map (idxB (rkP pl).length), rfl, SqL.of (by rw [h2, List.map_map]; rfl), ?_⟩
        have e2 : (xs.map (idxB (rkP pl).length)).all id = xs.all (idxB (rkP pl).length) := by simp
        rw [e2]
        refine ⟨_, rfl, ?_⟩
        cases e3 : xs.all (idxB (rkP pl).length) with
        | true => exact iteF ⟨a, xs, rfl, ha, e3, rfl, s1.trans s2, s2 _ _ h1⟩
        | false =>
          rw [e3] at z
          exact iteT z
    · rw [lst_not n t.mem c]
      have z := k H1 s1
      rw [fallV_not t c] at z
      exact z
  rintro _ H2 ⟨a, xs, rfl, ha, hall, rfl, s2, h2⟩
  have hl := hlv a xs rfl ha
  obtain ⟨ex, hb⟩ := idx_all hall
  have ha2 := s2 _ _ ha
  have ha2' : H2 a = some (.lst (ivs ((xs.map toN).map fun p => ((p : Nat) : Int)))) := by rw [ha2, ← ex]
  have pl' : (xs.map toN).length = xs.length := List.length_map _
  refine ⟨_, rfl, a, _, rfl, ha2', by rw [List.length_map, pl']; omega, fun c hc1 hc2 => ?_⟩
  rw [List.length_map, pl'] at hc1 hc2
  refine ⟨_, rfl, a, _, rfl, .inl ha2, _, _, rfl, rfl, ?_⟩
  have z := fun H' s => k H' s
  rw [fallV_at ha, hall, Bool.true_and] at z
  refine ⟨_, rfl, ite2 (fun y => ?_) (fun y => ?_)⟩
  · have y' : ((c : Nat) : Int) < ((xs.length : Nat) : Int) := of_decide_eq_true y
    have nn : ¬ (xs.map toN).Nodup := fun q => by
      have := hc2.mpr (nodup_cast.mpr q)
      omega
    have e : fallB (rkP pl) (xs.map toN) = false := by
      unfold fallB
      rw [decide_eq_false nn]
      rfl
    rw [e] at z
    exact z H2 s2
  · have y' : ¬ ((c : Nat) : Int) < ((xs.length : Nat) : Int) := fun q => y (decide_eq_true q)
    have nn : (xs.map toN).Nodup := nodup_cast.mp (hc2.mp (by omega))
    refine ⟨_, rfl, a, rfl, ⟨xs, SqL.of ha2⟩, fun D hD => lc_list (K := K) (a := a) (xs := xs) (fun i H' => Same H2 H' ∧ H' D = some (.lst (ivs (((xs.map toN).map (gE (rkP pl))).take i)))) ?_ ?_ ?_ ?_⟩
    · exact ⟨same_new hD, upd_same⟩
    · rintro i H' _ ⟨s3, _⟩
      exact SqL.of (s3 _ _ ha2)
    · rintro i y H' hx ⟨s3, h3⟩
      have il : i < xs.length := (List.getElem?_eq_some_iff.mp hx).1
      have ip : i < (xs.map toN).length := by omega
      have hx' := hx
      rw [ex] at hx'
      have e0 := nvs_get ip
      unfold nvs at e0
      rw [e0] at hx'
      cases hx'
      have hlt := hb _ (List.getElem_mem ip)
      refine ⟨rfl, _, rfl, _, rfl, l1, _, _, _, rfl, rfl, .inl (s3 _ _ h2), atI_nat (ivs_get hlt), _, h3, szl (by rw [ivs_len, List.length_take, List.length_map]; omega), same_mut s3 hD, ?_⟩
      rw [upd_same, List.take_add_one, List.getElem?_map, List.getElem?_eq_getElem ip]
      unfold ivs
      rw [List.map_append]
      show some (HO.lst (_ ++ [V.int (rkP pl)[(xs.map toN)[i]]])) = some (HO.lst (_ ++ [V.int (gE (rkP pl) (xs.map toN)[i])]))
      unfold gE
      rw [List.getD_eq_getElem?_getD, List.getElem?_eq_getElem hlt]
      rfl
    · rintro H3 ⟨s3, h3⟩
      have ha3 := s3 _ _ ha2
      rw [List.take_of_length_le (by rw [List.length_map]; omega)] at h3
      refine ⟨_, rfl, _, rfl, a, _, rfl, .inl ha3, _, rfl, l1, _, rfl, s3 _ _ h2, fun c4 H4 n4 s4 h4 => ?_⟩
      rw [cut_to] at h4
      have h4' : H4 c4 = some (.lst (ivs ((rkP pl).take xs.length))) := by
        rw [h4]
        unfold ivs
        rw [List.map_take]
      refine ⟨_, _, .lst (SqL.of (s4 _ _ h3)) (dp_ints _), .lst (SqL.of h4') (dp_ints _), shl_ints _, shl_ints _, ?_⟩
      rw [eqv_dvs]
      have e : fallB (rkP pl) (xs.map toN) = decide ((xs.map toN).map (gE (rkP pl)) = (rkP pl).take xs.length) := by
        unfold fallB
        rw [decide_eq_true nn, Bool.true_and, pl']
      rw [e] at z
      exact z H4 (s2.trans (s3.trans s4))
end
end Af

set_option Elab.async false
set_option linter.all false
set_option maxRecDepth 100000
set_option maxHeartbeats 4000000
namespace Af
open PySem L2
def eB (es : List Int) (ps : List Nat) (k j : Nat) : Bool := decide (gE es j < gE es (ps.getD k 0)) && !(ps.take k).contains j
theorem okAt_eB (es : List Int) (ps : List Nat) (k : Nat) : okAt es ps k = (!(ps.take k).contains (ps.getD k 0) && !(List.range es.length).any (eB es ps k)) := rfl
theorem gE_get {es : List Int} {j : Nat} (h : j < es.length) : (ivs es)[j]? = some (.int (gE es j)) := by
  rw [ivs_get h]
  unfold gE
  rw [List.getD_eq_getElem?_getD, List.getElem?_eq_getElem h]
  rfl
section
variable {P : Program} {w : World} {K : PySem.W.Frag} {mg : Str → Option Value} {base : Heap}
theorem ok_whole {f : Addr} {fd : FuncData} (F : Fun K "_law_is_whole" "_law_is_whole" s_l_is_whole f fd) (T : Txt mg) : FnOk P w K mg base CX0 1 f fd ["_law_thing", "_law_low", "_law_under"] (sp_whole K) := by
  refine F.ok sc_l_is_whole (fun vs H Q E h => ?_) (fun cdv A outer s H vs Q E hr h => ?_)
  · obtain ⟨_, _, _, rfl, _⟩ := h
    rfl
  obtain ⟨x, m, n, rfl, t, k⟩ := h
  refine ⟨_, (pss_one (ps_ret (pe_and (pe_callB call_isi' (by rfl) T.isinstance (by decide +kernel) (pa_cons (pv 0) (pa_cons (pe_bltn (v := .ty "int") (by rfl) T.int (by decide +kernel) rfl) pa_nil))) (pe_and (pe_not (pe_callB call_isi' (by rfl) T.isinstance (by decide +kernel) (pa_cons (pv 0) (pa_cons (pe_bltn (v := .ty "bool") (by rfl) T.bool (by decide +kernel) rfl) pa_nil)))) (pe_one (pe_chain op_le op_lt (pv 1) (pv 0) (pv 2))))))), ?_⟩
  refine ⟨_, rfl, x, n, "int", rfl, t, by decide, _, rfl, ?_⟩
  cases c : isB n "int" with
  | true =>
    refine ⟨_, rfl, x, n, "bool", rfl, t, by decide, _, rfl, _, rfl, ?_⟩
    rw [int_one n t.mem c]
    by_cases c : n = "int"
    · rw [decide_eq_true c]
      obtain ⟨i, rfl⟩ := ty_int t c
      refine ⟨_, rfl, _, rfl, _, _, rfl, rfl, _, rfl, ?_⟩
      have e : idxB m (.int i) = (decide (0 ≤ i) && decide (i < m)) := rfl
      rw [e] at k
      cases c2 : decide ((0 : Int) ≤ i) with
      | true =>
        rw [c2] at k
        exact ⟨_, rfl, _, _, rfl, rfl, k⟩
      | false =>
        rw [c2] at k
        exact k
    · rw [decide_eq_false c]
      rw [idx_not (no_int t c)] at k
      exact k
  | false =>
    have q := of_decide_eq_false (int_two n t.mem c)
    rw [idx_not (no_int t q)] at k
    exact k
theorem ok_lis_fall {f : Addr} {fd : FuncData} (F : Fun K "_law_is_fall" "_law_is_fall" s_l_is_fall f fd) (T : Txt mg) (t_any : mg "any" = none) (c_l_ranks : Cal P w K mg base 3 "_law_ranks" ["_law_plan_here"] sp_ranks)
    (c_l_is_whole : Cal P w K mg base 1 "_law_is_whole" ["_law_thing", "_law_low", "_law_under"] (sp_whole K)) : FnOk P w K mg base CX0 4 f fd ["_law_plan_here", "_law_thing"] (sp_lis_fall K) := by
  refine F.ok sc_l_is_fall (fun vs H Q E h => ?_) (fun cdv A outer s H vs Q E hr h => ?_)
  · obtain ⟨_, _, _, _, _, _, _, rfl, _⟩ := h
    rfl
  obtain ⟨pa, ca, sa, sp, zs, sts, v, rfl, hpa, hsa, hst, hsp, hzl, hw, h40, ⟨th, hlv⟩, k⟩ := h
  obtain ⟨n, t⟩ := th.ty
  generalize hes : rnk sts (allP sp 0 sts) = es at k
  have rl : es.length ≤ 40 := by rw [← hes]; unfold rnk; rw [List.length_map]; exact h40
  refine ⟨_, (pss_cons (ps_set (i := 2) sc_l_is_fall.nd rfl (Or.inr rfl) (pe_cal c_l_ranks hr (pa_cons (pv 0) pa_nil)))
    (pss_cons (ps_cut (ps_if (PW.pt (pw_or (pt_not (pt_val (pe_callB call_isi' (by rfl) T.isinstance (by decide +kernel) (pa_cons (pv 1) (pa_cons (pe_bltn (v := .ty "list") (by rfl) T.list (by decide +kernel) rfl) pa_nil))))) (pw_or1 (pt_not (pt_val (pe_callB (cr_all rfl) (by rfl) T.all (by decide +kernel) (pa_cons (pe_lc (own := [("_law_one", 4)]) (g := (gName 4)) (tt := tYes) rfl sc_l_is_fall.nd (pi_list (pv 1)) (blkOk_by (own := [("_law_one", 4)]) (N := N_l_is_fall) (sc := defScope s_l_is_fall) (by decide +kernel)) (fun _ _ _ _ _ => pg_name (i := 4) sc_l_is_fall.nd rfl (Or.inl rfl)) (fun _ _ _ _ _ => pts_nil) (fun _ _ _ _ _ => (pe_cal c_l_is_whole hr (pa_cons (pv 4) (pa_cons pe_int (pa_cons (pe_callB call_len' (by rfl) T.len (by decide +kernel) (pa_cons (pv 2) pa_nil)) pa_nil)))))) pa_nil)))))))
      (pss_one (ps_ret pe_bl))
      pss_nil))
    (pss_cons (ps_for PassesOwn.never rfl (pi_range1 rfl T.range (pa_cons (pe_callB call_len' (by rfl) T.len (by decide +kernel) (pa_cons (pv 1) pa_nil)) pa_nil)) (pg_name (i := 3) sc_l_is_fall.nd rfl (Or.inr rfl))
      (pss_cons (ps_if (pt_cmpR op_in_seq (pe_ix ix_seq' (pv 1) (pv 3) (fun _ _ => rfl)) (pe_slice sl_list' (pv 1) po_none (po_some (pv 3))) (by rfl))
      (pss_one (ps_ret pe_bl))
      pss_nil)
    (pss_one (ps_if (pt_val (pe_callB (cr_any rfl) (by rfl) t_any (by decide +kernel) (pa_cons (pe_lc (own := [("_law_j", 5)]) (g := (gName 5)) (tt := tYes) rfl sc_l_is_fall.nd (pi_range1 rfl T.range (pa_cons (pe_callB call_len' (by rfl) T.len (by decide +kernel) (pa_cons (pv 2) pa_nil)) pa_nil)) (blkOk_by (own := [("_law_j", 5)]) (N := N_l_is_fall) (sc := defScope s_l_is_fall) (by decide +kernel)) (fun _ _ _ _ _ => pg_name (i := 5) sc_l_is_fall.nd rfl (Or.inl rfl)) (fun _ _ _ _ _ => pts_nil) (fun _ _ _ _ _ => (pe_and (pe_cmpR op_lt (pe_ix ix_seq' (pv 2) (pv 5) (fun _ _ => rfl)) (pe_ix ix_seq' (pv 2) (pe_ix ix_seq' (pv 1) (pv 3) (fun _ _ => rfl)) (fun _ _ => rfl)) (nomark _)) (pe_one (pe_cmpR (op_notInK (K := K) rfl) (pv 5) (pe_slice sl_list' (pv 1) po_none (po_some (pv 3))) (by rfl)))))) pa_nil)))
      (pss_one (ps_ret pe_bl))
      pss_nil))))
    (pss_one (ps_ret pe_bl))))), ?_⟩
  refine ⟨_, rfl, pa, ca, sa, sp, zs, sts, rfl, hpa, hsa, hst, hsp, hzl, hw, h40, fun l1 H1 s1 n1 h1 => ?_⟩
  rw [hes] at h1
  refine ⟨fun σ' H' => ∃ a xs, v = .ref a ∧ H a = some (.lst xs) ∧ xs.all (idxB es.length) = true ∧ σ' = [some (.ref pa), some v, some (.ref l1), none, none, none] ∧ Same H H' ∧ H' l1 = some (.lst (ivs es)), ?_, ?_⟩
  · refine ⟨_, rfl, v, n, "list", rfl, t.same s1, by decide, _, rfl, ?_⟩
    by_cases c : n = "list"
    · obtain ⟨a, xs, rfl, ha⟩ := ty_lst t c
      have hl := hlv a xs rfl ha
      obtain ⟨_, hy⟩ := th.2 a xs rfl (.inr ha)
      have e : isB n "list" = true := by rw [c]; decide
      rw [e]
      refine ⟨_, rfl, a, rfl, ⟨xs, SqL.of (s1 _ _ ha)⟩, fun D hD => lc_list (K := K) (a := a) (xs := xs) (fun i H' => Same H1 H' ∧ H' D = some (.lst ((xs.take i).map fun y => V.bl (idxB es.length y)))) ?_ ?_ ?_ ?_⟩
      · exact ⟨same_new hD, upd_same⟩
      · rintro i H' _ ⟨s2, _⟩
        exact SqL.of (s2 _ _ (s1 _ _ ha))
      · rintro i y H' hx ⟨s2, h2⟩
        obtain ⟨m, ty⟩ := hy y (List.mem_of_getElem? hx)
        have il : i < xs.length := (List.getElem?_eq_some_iff.mp hx).1
        refine ⟨rfl, _, rfl, _, rfl, l1, _, rfl, .inl (s2 _ _ h1), ?_⟩
        rw [ivs_len]
        refine ⟨y, _, m, rfl, ty.same (s1.trans s2), _, h2, ?_, same_mut s2 hD, ?_⟩
        · rw [List.length_map, List.length_take]
          exact szl (by omega)
        · rw [upd_same, List.take_add_one, hx]
          simp
      · rintro H' ⟨s2, h2⟩
        rw [List.take_length] at h2
        have z := k H' (s1.trans s2)
        rw [lawV_at ha] at z
        refine ⟨D, xs.map (idxB es.length), rfl, SqL.of (by rw [h2, List.map_map]; rfl), ?_⟩
        have e2 : (xs.map (idxB es.length)).all id = xs.all (idxB es.length) := by simp
        rw [e2]
        refine ⟨_, rfl, ?_⟩
        cases e3 : xs.all (idxB es.length) with
        | true => exact iteF ⟨a, xs, rfl, ha, e3, rfl, s1.trans s2, s2 _ _ h1⟩
        | false =>
          rw [e3] at z
          exact iteT z
    · rw [lst_not n t.mem c]
      have z := k H1 s1
      rw [lawV_not t c] at z
      exact z
  rintro _ H2 ⟨a, xs, rfl, ha, hall, rfl, s2, h2⟩
  have hl := hlv a xs rfl ha
  obtain ⟨ex, hb⟩ := idx_all hall
  have ha2 := s2 _ _ ha
  generalize hps : xs.map toN = ps at ex hb
  have pl' : ps.length = xs.length := by rw [← hps]; exact List.length_map _
  have ex' : xs = nvs ps := ex
  have z := fun H' s => k H' s
  rw [lawV_at ha, hall, Bool.true_and, hps] at z
  refine ⟨_, rfl, a, _, rfl, .inl ha2, _, rfl, by omega, by omega, ?_⟩
  refine for_range (lo := 0) (fun i σ' H' => ∃ v3, σ' = [some (.ref pa), some (.ref a), some (.ref l1), v3, none, none] ∧ Same H2 H' ∧ ∀ j < i, okAt es ps j = true) ?_ ?_ ?_
  · exact ⟨_, rfl, Same.refl _, fun j h => absurd h (Nat.not_lt_zero _)⟩
  · rintro i σ' H' hi ⟨v3, rfl, s3, hok⟩
    have ip : i < ps.length := by omega
    have ha3 := s3 _ _ ha2
    have hat : xs[i]? = some (.int ((ps[i] : Nat) : Int)) := by rw [ex']; exact nvs_get ip
    have bad : okAt es ps i = false → lawB es ps = false := fun e => by
      unfold lawB
      rw [List.all_eq_false]
      exact ⟨i, List.mem_range.mpr ip, by rw [e]; decide⟩
    have gd : ps.getD i 0 = ps[i] := by
      rw [List.getD_eq_getElem?_getD, List.getElem?_eq_getElem ip]
      rfl
    refine ⟨_, rfl, _, rfl, a, _, _, _, rfl, rfl, .inl ha3, at_of (by omega) hat, ?_⟩
    refine ⟨_, rfl, _, rfl, _, rfl, a, _, rfl, ha3, fun c H4 n4 s4 h4 => ?_⟩
    have h4' : H4 c = some (.lst (nvs (ps.take i))) := by
      rw [h4, show (0 : Int) + (i : Int) = ((i : Nat) : Int) by omega, cut_to, ex', nvs_take]
    refine ⟨c, _, rfl, .inl (SqL.of h4'), rfl, flat_ivs _, _, rfl, ite2 (fun y => ?_) (fun y => ?_)⟩
    · have y' : (ps.take i).contains ps[i] = true := by
        rw [← in_nvs]
        exact y
      have w := z H4 (s2.trans (s3.trans s4))
      rw [bad (by unfold okAt; rw [gd, y']; rfl)] at w
      exact w
    have y' : (ps.take i).contains ps[i] = false := by
      rw [← in_nvs]
      exact Bool.eq_false_iff.mpr y
    have l4 := s4 _ _ (s3 _ _ h2)
    refine ⟨_, rfl, l1, _, rfl, .inl l4, _, rfl, by omega, by rw [ivs_len]; omega, fun D hD => lc_range (lo := 0) (fun j H' => Same H4 H' ∧ H' D = some (.lst (((List.range j).map (eB es ps i)).map V.bl))) ?_ ?_ ?_⟩
    · exact ⟨same_new hD, upd_same⟩
    · rintro j H5 hj ⟨s5, h5⟩
      rw [ivs_len] at hj
      have hj' : j < es.length := by omega
      have l5 := s5 _ _ l4
      have ha5 := s5 _ _ (s4 _ _ ha3)
      have hlt := hb _ (List.getElem_mem ip)
      have fin : ∀ H6, Same H5 H6 → ∀ b, b = eB es ps i j → ∃ acc, H6 D = some (.lst acc) ∧ acc.length < sizeLine ∧ Same H4 (L2.upd H6 D (.lst (acc ++ [.bl b]))) ∧ (L2.upd H6 D (.lst (acc ++ [.bl b]))) D = some (.lst (((List.range (j + 1)).map (eB es ps i)).map V.bl)) := fun H6 s6 b eb => by
        refine ⟨_, s6 _ _ h5, szl (by rw [List.length_map, List.length_map, List.length_range]; omega), same_mut (s5.trans s6) hD, ?_⟩
        rw [upd_same, List.range_succ, List.map_append, List.map_append, eb]
        rfl
      refine ⟨rfl, _, rfl, _, rfl, l1, _, _, _, rfl, rfl, .inl l5, at_of (by omega) (gE_get hj'), _, rfl, _, rfl, _, rfl, a, _, _, _, rfl, rfl, .inl ha5, at_of (by omega) hat, l1, _, _, _, rfl, rfl, .inl l5, atI_nat (gE_get hlt), _, _, rfl, rfl, _, rfl, ?_⟩
      refine ite2 (fun y1 => ?_) (fun y1 => ?_)
      · refine ⟨_, rfl, _, rfl, _, rfl, _, rfl, a, _, rfl, ha5, fun c6 H6 n6 s6 h6 => ?_⟩
        have h6' : H6 c6 = some (.lst (nvs (ps.take i))) := by
          rw [h6, show (0 : Int) + (i : Int) = ((i : Nat) : Int) by omega, cut_to, ex', nvs_take]
        refine ⟨c6, _, rfl, .inl (SqL.of h6'), rfl, flat_ivs _, ?_⟩
        refine fin H6 s6 _ ?_
        show (!inV (.int (0 + (j : Int))) (nvs (ps.take i))) = _
        rw [show (0 : Int) + (j : Int) = ((j : Nat) : Int) by omega, in_nvs]
        unfold eB
        rw [gd, y1, Bool.true_and]
      · refine fin H5 (Same.refl _) _ ?_
        unfold eB
        rw [gd, Bool.eq_false_iff.mpr y1, Bool.false_and]
    · rintro H5 ⟨s5, h5⟩
      rw [ivs_len] at h5
      refine ⟨D, (List.range es.length).map (eB es ps i), rfl, SqL.of (by rw [h5]; rfl), _, rfl, ite2 (fun y => ?_) (fun y => ?_)⟩
      · have y2 : (List.range es.length).any (eB es ps i) = true := by
          rw [List.any_map] at y
          exact y
        have w := z H5 (s2.trans (s3.trans (s4.trans s5)))
        rw [bad (by rw [okAt_eB, y2, Bool.not_true, Bool.and_false])] at w
        exact w
      · have y2 : (List.range es.length).any (eB es ps i) = false := by
          rw [List.any_map] at y
          exact Bool.eq_false_iff.mpr y
        refine ⟨_, rfl, s3.trans (s4.trans s5), fun j hj => ?_⟩
        rcases Nat.lt_or_ge j i with d | d
        · exact hok j d
        · have e : j = i := by omega
          rw [e, okAt_eB, y2, gd, y']
          rfl
  · rintro σ' H3 ⟨v3, rfl, s3, hok⟩
    have w := z H3 (s2.trans s3)
    rw [show lawB es ps = true from by
      unfold lawB
      rw [List.all_eq_true]
      intro j hj
      exact hok j (by have := List.mem_range.mp hj; omega)] at w
    exact w
end
end Af

set_option Elab.async false
set_option linter.all false
namespace Af
open PySem L2
theorem lawB_iff {es : List Int} {ps : List Nat} : lawB es ps = true ↔ ∀ k (hk : k < ps.length), ps[k] ∉ ps.take k ∧ ∀ j < es.length, gE es j < gE es ps[k] → j ∈ ps.take k := by
  unfold lawB
  rw [List.all_eq_true]
  exact ⟨fun h k hk => (okAt_iff hk).mp (h k (List.mem_range.mpr hk)), fun h k hk => (okAt_iff (List.mem_range.mp hk)).mpr (h k (List.mem_range.mp hk))⟩
theorem mem_take {ps : List Nat} {k j : Nat} : j ∈ ps.take k ↔ ∃ i, i < k ∧ ∃ h : i < ps.length, ps[i] = j := by
  constructor
  · intro m
    obtain ⟨i, hi⟩ := List.mem_iff_getElem?.mp m
    rw [List.getElem?_take] at hi
    by_cases c : i < k
    · rw [if_pos c] at hi
      obtain ⟨h, e⟩ := List.getElem?_eq_some_iff.mp hi
      exact ⟨i, c, h, e⟩
    · rw [if_neg c] at hi
      cases hi
  · rintro ⟨i, c, h, e⟩
    exact List.mem_iff_getElem?.mpr ⟨i, by rw [List.getElem?_take, if_pos c, List.getElem?_eq_getElem h, e]⟩
/-- a barrier behind the first c pieces shuts it -/
def shutB (ps : List Nat) (c : Nat) : Bool := (ps.take c).any fun p => decide (c ≤ p)
theorem shut_same {es es' : List Int} {ps : List Nat} {c : Nat} (so : ∀ i j, i ≤ j → j < es.length → gE es i ≤ gE es j) (ln : es'.length = es.length) (hb : ∀ p ∈ ps, p < es.length) (hc : c ≤ es.length)
    (he : ∀ j < es.length, gE es' j = gE es j + (if c ≤ j then 1 else 0)) (hf : lawB es ps = true) : lawB es' ps = !shutB ps c := by
  have hf' := lawB_iff.mp hf
  have nd := before_nodup fun k hk => (hf' k hk).1
  have e1 : shutB ps c = false ↔ ∀ i, i < c → ∀ h : i < ps.length, ps[i] < c := by
    unfold shutB
    rw [List.any_eq_false]
    constructor
    · intro h i ic il
      have := h ps[i] (mem_take.mpr ⟨i, ic, il, rfl⟩)
      have : ¬ c ≤ ps[i] := fun z => this (decide_eq_true z)
      omega
    · intro h p hp z
      obtain ⟨i, ic, il, rfl⟩ := mem_take.mp hp
      have := h i ic il
      have := of_decide_eq_true z
      omega
  rw [Bool.eq_iff_iff, Bool.not_eq_true', e1, lawB_iff]
  constructor
  · intro h i ic il
    rcases Nat.lt_or_ge ps[i] c with d | d
    · exact d
    · have hp := hb _ (List.getElem_mem il)
      have := sub_len (l1 := List.range c) (l2 := ps.take i) List.nodup_range fun j hj => by
        have jc := List.mem_range.mp hj
        refine (h i il).2 j (by omega) ?_
        rw [he j (by omega), he _ hp, if_neg (by omega), if_pos d]
        have := so j ps[i] (by omega) hp
        omega
      rw [List.length_range, List.length_take] at this
      omega
  · intro h k hk
    refine ⟨(hf' k hk).1, fun j hj hlt => ?_⟩
    rw [ln] at hj
    have hp := hb _ (List.getElem_mem hk)
    rcases Int.lt_or_le (gE es j) (gE es ps[k]) with d | d
    · exact (hf' k hk).2 j hj d
    · rw [he j hj, he _ hp] at hlt
      have jc : j < c := by
        rcases Nat.lt_or_ge j c with x | x
        · exact x
        · rw [if_pos x] at hlt
          split at hlt <;> omega
      have pc : c ≤ ps[k] := by
        rcases Nat.lt_or_ge ps[k] c with x | x
        · rw [if_neg (show ¬ c ≤ ps[k] by omega)] at hlt
          split at hlt <;> omega
        · exact x
      have kc : c ≤ k := by
        rcases Nat.lt_or_ge k c with x | x
        · have := h k x hk
          omega
        · exact x
      have m := all_in (l := ps.take c) (c := c) (take_nodup nd _) (fun x hx => by
        obtain ⟨i, ic, il, rfl⟩ := mem_take.mp hx
        exact h i ic il) (by rw [List.length_take]; omega) jc
      obtain ⟨i, ic, il, e⟩ := mem_take.mp m
      exact mem_take.mpr ⟨i, by omega, il, e⟩
/-- a fall goes on with a piece of the least epoch that is left -/
theorem law_snoc {es : List Int} {ps : List Nat} {p : Nat} (h : lawB es ps = true) (np : p ∉ ps) (low : ∀ j < es.length, j ∉ ps → gE es p ≤ gE es j) : lawB es (ps ++ [p]) = true := by
  rw [lawB_iff] at h ⊢
  intro k hk
  rw [List.length_append, List.length_singleton] at hk
  rcases Nat.lt_or_ge k ps.length with d | d
  · rw [List.getElem_append_left d, List.take_append_of_le_length (by omega)]
    exact h k d
  · have e : k = ps.length := by omega
    subst e
    rw [List.getElem_append_right (Nat.le_refl _)]
    have e2 : (ps ++ [p]).take ps.length = ps := List.take_left
    rw [e2]
    simp only [Nat.sub_self, List.getElem_cons_zero]
    refine ⟨np, fun j hj hlt => ?_⟩
    by_cases m : j ∈ ps
    · exact m
    · have := low j hj m
      omega
end Af

set_option Elab.async false
set_option linter.all false
set_option maxRecDepth 100000
set_option maxHeartbeats 4000000
namespace Af
open PySem L2
abbrev s_l_nexts : Stmt := top 57
abbrev N_l_nexts : List Str := ["_law_ranks_here", "_law_some_here", "_law_rest", "_law_low", "_law_k"]
theorem sc_l_nexts : FnScope N_l_nexts ["_law_ranks_here", "_law_some_here"] (defScope s_l_nexts) := ⟨rfl, rfl, rfl, by decide +kernel, rfl, by decide +kernel, by decide +kernel⟩

abbrev s_l_fall : Stmt := top 58
abbrev N_l_fall : List Str := ["_law_pen_here", "_law_plan_here", "_law_ranks_here", "_law_found", "_law_turn", "_law_some_here"]
theorem sc_l_fall : FnScope N_l_fall ["_law_pen_here", "_law_plan_here"] (defScope s_l_fall) := ⟨rfl, rfl, rfl, by decide +kernel, rfl, by decide +kernel, by decide +kernel⟩

theorem cr_minKK {X : Cx} {K : PySem.W.Frag} (hK : X.K = K) (hc : X.calm = true) : CallR X (.builtin "min") (rMin K) := by
  subst hK
  exact cr_min hc
def scB : Scope := { kind := ScopeKind.function, names := [(".0", NameKind.local), ("_law_k", NameKind.local), ("min", NameKind.globalImplicit), ("_law_ranks_here", NameKind.cell), ("_law_rest", NameKind.cell)], isGenerator := false, isCoroutine := false }
theorem pi_listK {X : Cx} {K : PySem.W.Frag} {e tg : Expr} {te : TE} (hK : X.K = K) (he : PE X e te) : PI X tg e (iList K te) := by
  subst hK
  exact pi_list he
def restU (fs : List Nat) (i : Nat) : List Nat := (List.range i).filter fun k => !fs.contains k
theorem restU_succ (fs : List Nat) (i : Nat) : restU fs (i + 1) = restU fs i ++ (if fs.contains i then [] else [i]) := by
  unfold restU
  rw [List.range_succ, List.filter_append]
  congr 1
  cases c : fs.contains i with
  | true =>
    show List.filter _ [i] = _
    rw [List.filter_cons, c]
    rfl
  | false =>
    show List.filter _ [i] = _
    rw [List.filter_cons, c]
    rfl
theorem restU_in {fs : List Nat} {i p : Nat} (h : p ∈ restU fs i) : p < i := List.mem_range.mp (List.mem_filter.mp h).1
theorem restU_len (fs : List Nat) (i : Nat) : (restU fs i).length ≤ i := by
  have := List.length_filter_le (fun k => !fs.contains k) (List.range i)
  rw [List.length_range] at this
  exact this
theorem restU_some {fs : List Nat} {i : Nat} (h : fs.length < i) : restU fs i ≠ [] := fun e => by
  have := sub_len (l1 := List.range i) (l2 := fs) List.nodup_range fun x hx => by
    by_cases c : x ∈ fs
    · exact c
    · have : x ∈ restU fs i := List.mem_filter.mpr ⟨hx, by simpa using c⟩
      rw [e] at this
      cases this
  rw [List.length_range] at this
  omega
theorem least {α : Type} (f : α → Int) : ∀ l : List α, l ≠ [] → ∃ x ∈ l, ∀ q ∈ l, f x ≤ f q
  | [], h => absurd rfl h
  | [x], _ => ⟨x, List.mem_cons_self, fun q hq => by rw [List.mem_singleton.mp hq]; exact Int.le_refl _⟩
  | x :: y :: l, _ => by
    obtain ⟨z, hz, hle⟩ := least f (y :: l) (by simp)
    by_cases c : f x ≤ f z
    · refine ⟨x, List.mem_cons_self, fun q hq => ?_⟩
      rcases List.mem_cons.mp hq with rfl | hq
      · exact Int.le_refl _
      · exact Int.le_trans c (hle q hq)
    · refine ⟨z, List.mem_cons_of_mem _ hz, fun q hq => ?_⟩
      rcases List.mem_cons.mp hq with rfl | hq
      · omega
      · exact hle q hq
def sp_nexts : Sp := fun vs H Q _ => ∃ (r s : Addr) (es : List Int) (fs : List Nat), vs = [.ref r, .ref s] ∧ H r = some (.lst (ivs es)) ∧ H s = some (.lst (nvs fs)) ∧ es.length ≤ 40 ∧ fs.length < es.length ∧ (∀ j < es.length, gE es j ≤ 98) ∧
  ∀ l H' ps, Same H H' → H l = none → H' l = some (.lst (nvs ps)) → ps ≠ [] → (∀ p ∈ ps, p < es.length ∧ p ∉ fs ∧ ∀ j < es.length, j ∉ fs → gE es p ≤ gE es j) → ps.length ≤ 40 → Q (.ref l) H'
theorem restU_mem {fs : List Nat} {i p : Nat} : p ∈ restU fs i ↔ p < i ∧ p ∉ fs := by
  unfold restU
  rw [List.mem_filter, List.mem_range]
  constructor
  · rintro ⟨h1, h2⟩
    exact ⟨h1, by simpa using h2⟩
  · rintro ⟨h1, h2⟩
    exact ⟨h1, by simpa using h2⟩
theorem nvs_app (a b : List Nat) : nvs (a ++ b) = nvs a ++ nvs b := by
  unfold nvs ivs
  rw [List.map_append, List.map_append]
section
variable {P : Program} {w : World} {K : PySem.W.Frag} {mg : Str → Option Value} {base : Heap}
theorem ok_nexts {f : Addr} {fd : FuncData} (F : Fun K "_law_nexts" "_law_nexts" s_l_nexts f fd) (T : Txt mg) : FnOk P w K mg base CX0 1 f fd ["_law_ranks_here", "_law_some_here"] sp_nexts := by
  refine F.ok sc_l_nexts (fun vs H Q E h => ?_) (fun cdv A outer s H vs Q E hr h => ?_)
  · obtain ⟨_, _, _, _, rfl, _⟩ := h
    rfl
  obtain ⟨r, s, es, fs, rfl, hr1, hs1, el, fl, e64, k⟩ := h
  refine ⟨_, (pss_cons (ps_setLc (i := 2) (own := [("_law_k", 4)]) (g := (gName 4)) rfl sc_l_nexts.nd rfl rfl (sw_true rfl rfl rfl (by decide +kernel)) (pi_range1 rfl T.range (pa_cons (pe_callB call_len' (by rfl) T.len (by decide +kernel) (pa_cons (pv 0) pa_nil)) pa_nil)) (blkOk_by (own := [("_law_k", 4)]) (N := N_l_nexts) (sc := defScope s_l_nexts) (by decide +kernel)) (fun _ _ _ _ _ => pg_name (i := 4) sc_l_nexts.nd rfl (Or.inl rfl)) (fun _ _ _ _ _ => (pts_one (pt_cmpR (op_notInK (K := K) rfl) (pv 4) (pv 1) (by rfl)))) (fun _ _ _ _ _ => (pv 4)))
    (pss_cons (ps_set (i := 3) sc_l_nexts.nd rfl (Or.inr rfl) (pe_callB (cr_min rfl) (by rfl) T.min (by decide +kernel) (pa_cons (pe_op op_cat' (pe_lc (own := [("_law_k", 4)]) (g := (gName 4)) (tt := tYes) rfl sc_l_nexts.nd (pi_list (pv 2)) (blkOk_by (own := [("_law_k", 4)]) (N := N_l_nexts) (sc := defScope s_l_nexts) (by decide +kernel)) (fun _ _ _ _ _ => pg_name (i := 4) sc_l_nexts.nd rfl (Or.inl rfl)) (fun _ _ _ _ _ => pts_nil) (fun _ _ _ _ _ => (pe_ix ix_seq' (pv 0) (pv 4) (fun _ _ => rfl)))) (pe_lst' (pa_cons pe_int pa_nil))) pa_nil)))
    (pss_one (ps_ret (pe_lc (own := [("_law_k", 4)]) (g := (gName 4)) rfl sc_l_nexts.nd (pi_list (pv 2)) (blkOk_by (own := [("_law_k", 4)]) (N := N_l_nexts) (sc := defScope s_l_nexts) (by decide +kernel)) (fun _ _ _ _ _ => pg_name (i := 4) sc_l_nexts.nd rfl (Or.inl rfl)) (fun _ _ _ _ _ => (pts_one (pt_cmpR op_eq (pe_ix ix_seq' (pv 0) (pv 4) (fun _ _ => rfl)) (pv 3) (nomark _)))) (fun _ _ _ _ _ => (pv 4))))))), ?_⟩
  refine ⟨_, rfl, r, _, rfl, .inl hr1, _, rfl, by omega, by rw [ivs_len]; omega, fun D hD => lc_range (lo := 0) (fun i H' => Same H H' ∧ H' D = some (.lst (nvs (restU fs i)))) ?_ ?_ ?_⟩
  · exact ⟨same_new hD, upd_same⟩
  · rintro i H' hi ⟨s1, h1⟩
    rw [ivs_len] at hi
    have e : inV (.int (0 + (i : Int))) (nvs fs) = fs.contains i := by
      rw [show (0 : Int) + (i : Int) = ((i : Nat) : Int) by omega, in_nvs]
    refine ⟨rfl, _, rfl, _, rfl, s, _, rfl, .inl (SqL.of (s1 _ _ hs1)), rfl, flat_ivs _, _, rfl, ?_⟩
    show if (!inV (.int (0 + (i : Int))) (nvs fs)) = true then _ else _
    rw [e]
    cases c : fs.contains i with
    | false =>
      have rs := restU_succ fs i
      rw [c, if_neg (by decide)] at rs
      refine ⟨_, rfl, _, h1, szl (by rw [nvs_len]; have := restU_len fs i; omega), same_mut s1 hD, ?_⟩
      rw [upd_same, rs, nvs_app, show (0 : Int) + (i : Int) = ((i : Nat) : Int) by omega]
      rfl
    | true =>
      have rs := restU_succ fs i
      rw [c, if_pos rfl, List.append_nil] at rs
      exact ⟨s1, by rw [rs]; exact h1⟩
  · rintro H1 ⟨s1, h1⟩
    have h1' : H1 D = some (.lst (nvs (restU fs es.length))) := by
      rw [h1, ivs_len]
      rfl
    generalize hrs : restU fs es.length = rs at h1'
    have rne : rs ≠ [] := by rw [← hrs]; exact restU_some fl
    have rin : ∀ p ∈ rs, p < es.length := fun p hp => restU_in (hrs ▸ hp)
    have rln : rs.length ≤ 40 := by
      have := restU_len fs es.length
      rw [hrs] at this
      omega
    have hr2 := s1 _ _ hr1
    refine ⟨_, rfl, D, rfl, ⟨_, SqL.of h1'⟩, fun D3 hD3 => lc_list (K := K) (a := D) (xs := nvs rs) (fun j H'' => Same H1 H'' ∧ H'' D3 = some (.lst (ivs ((rs.map (gE es)).take j)))) ?_ ?_ ?_ ?_⟩
    · exact ⟨same_new hD3, upd_same⟩
    · rintro j H'' _ ⟨s3, _⟩
      exact SqL.of (s3 _ _ h1')
    · rintro j y H'' hy ⟨s3, h3⟩
      have jl : j < rs.length := by rw [← nvs_len]; exact (List.getElem?_eq_some_iff.mp hy).1
      rw [nvs_get jl] at hy
      cases hy
      have hlt2 := rin _ (List.getElem_mem jl)
      refine ⟨rfl, _, rfl, _, rfl, r, _, _, _, rfl, rfl, .inl (s3 _ _ hr2), atI_nat (gE_get hlt2), _, h3, szl (by rw [ivs_len, List.length_take, List.length_map]; omega), same_mut s3 hD3, ?_⟩
      rw [upd_same, List.take_add_one, List.getElem?_map, List.getElem?_eq_getElem jl]
      unfold ivs
      rw [List.map_append]
      rfl
    rintro H3 ⟨s3, h3⟩
    rw [List.take_of_length_le (by rw [List.length_map, nvs_len]; omega)] at h3
    refine ⟨szr, fun o9 H4 n4 s4 h4 => ?_⟩
    refine ⟨D3, o9, _, _, rfl, rfl, s4 _ _ h3, h4, sz (by rw [ivs_len, List.length_map]; show _ + 1 ≤ _; omega), fun o8 H5 n5 s5 h5 => ?_⟩
    have h5' : H5 o8 = some (.lst (ivs (rs.map (gE es) ++ [99]))) := by
      rw [h5]
      unfold ivs
      rw [List.map_append]
      rfl
    refine ⟨o8, _, rfl, SqL.of h5', by rw [List.length_append]; show 0 < _ + 1; omega, fun m hm hle => ?_⟩
    obtain ⟨x, hx, hxm⟩ := least (gE es) rs rne
    have hlow : m = gE es x := by
      have l1 := hle (gE es x) (List.mem_append.mpr (.inl (List.mem_map.mpr ⟨x, hx, rfl⟩)))
      have l2 := e64 x (rin x hx)
      rcases List.mem_append.mp hm with hm | hm
      · obtain ⟨q, hq, eq⟩ := List.mem_map.mp hm
        have := hxm q hq
        omega
      · rw [List.mem_singleton.mp hm] at l1
        omega
    have T5 := s3.trans (s4.trans s5)
    have hD5 := T5 _ _ h1'
    have hr5 := T5 _ _ hr2
    refine ⟨_, rfl, D, rfl, ⟨_, SqL.of hD5⟩, fun D2 hD2 => lc_list (K := K) (a := D) (xs := nvs rs) (fun i H' => ∃ acc : List Nat, Same H5 H' ∧ H' D2 = some (.lst (nvs acc)) ∧ acc.length ≤ i ∧ (∀ p ∈ acc, p ∈ rs ∧ gE es p = m) ∧ ∀ j (hj : j < rs.length), j < i → gE es rs[j] = m → acc ≠ []) ?_ ?_ ?_ ?_⟩
    · exact ⟨[], same_new hD2, upd_same, Nat.le_refl _, fun p hp => absurd hp List.not_mem_nil, fun j _ h => absurd h (Nat.not_lt_zero _)⟩
    · rintro i H' _ ⟨acc, s2, _⟩
      exact SqL.of (s2 _ _ hD5)
    · rintro i y H' hy ⟨acc, s2, h2, al, ai, am⟩
      have il : i < rs.length := by rw [← nvs_len]; exact (List.getElem?_eq_some_iff.mp hy).1
      rw [nvs_get il] at hy
      cases hy
      have hlt := rin _ (List.getElem_mem il)
      refine ⟨rfl, _, rfl, _, rfl, r, _, _, _, rfl, rfl, .inl (s2 _ _ hr5), atI_nat (gE_get hlt), _, rfl, rfl, _, rfl, ite2 (fun y => ?_) (fun y => ?_)⟩
      · have y' : gE es rs[i] = m := V.int.inj (of_decide_eq_true y)
        refine ⟨_, rfl, _, h2, szl (by rw [nvs_len]; omega), acc ++ [rs[i]], same_mut s2 hD2, ?_, by rw [List.length_append, List.length_singleton]; omega, fun p hp => ?_, fun _ _ _ _ z => by simp at z⟩
        · rw [upd_same, nvs_app]
          rfl
        · rcases List.mem_append.mp hp with hp | hp
          · exact ai p hp
          · rw [List.mem_singleton.mp hp]
            exact ⟨List.getElem_mem il, y'⟩
      · refine ⟨acc, s2, h2, by omega, ai, fun j hj hji hmin => ?_⟩
        rcases Nat.lt_or_ge j i with d | d
        · exact am j hj d hmin
        · have e : j = i := by omega
          subst e
          exact absurd (decide_eq_true (by rw [hmin])) y
    · rintro H2 ⟨acc, s2, h2, al, ai, am⟩
      rw [nvs_len] at al am
      obtain ⟨j, hj, ej⟩ := List.getElem_of_mem hx
      refine k D2 H2 acc (s1.trans (T5.trans s2)) ((s1.trans T5).free hD2) h2 (am j hj hj (by rw [ej, hlow])) (fun p hp => ?_) (by omega)
      obtain ⟨p1, p2⟩ := ai p hp
      rw [← hrs] at p1
      obtain ⟨p3, p4⟩ := restU_mem.mp p1
      refine ⟨p3, p4, fun j hj hn => ?_⟩
      rw [p2, hlow]
      exact hxm j (by rw [← hrs]; exact restU_mem.mpr ⟨hj, hn⟩)
end
end Af

set_option Elab.async false
set_option linter.all false
set_option maxRecDepth 100000
set_option maxHeartbeats 4000000
namespace Af
open PySem L2
def sp_fall : Sp := fun vs H Q _ => ∃ (q : Pn) (m : Nat) (a ca sa : Addr) (sp : Int) (xs : List V) (sts : List Stp), vs = [.ref q.p, .ref a] ∧ Pen q m H ∧ m + 100 < 1000000000000 ∧ H a = some (.tup [.ref ca, .int sp, .ref sa]) ∧ H sa = some (.lst xs) ∧ Paired (StepV H) xs sts ∧ 0 < sp ∧ xs.length ≤ 90 ∧
  (∀ f ws, some (f, ws) ∈ sts → ws.length ≤ 100) ∧ (allP sp 0 sts).length ≤ 40 ∧ ∀ l H' ps, Go q (m + 50) H H' → H l = none → H' l = some (.lst (nvs ps)) → ps.length ≤ 40 → (∀ p ∈ ps, p < (allP sp 0 sts).length) → lawB (rnk sts (allP sp 0 sts)) ps = true → Q (.ref l) H'
section
variable {P : Program} {w : World} {K : PySem.W.Frag} {mg : Str → Option Value} {base : Heap}
theorem ok_fall {f : Addr} {fd : FuncData} (F : Fun K "_law_fall" "_law_fall" s_l_fall f fd) (T : Txt mg) (c_l_draw : Cal P w K mg base 2 "_law_draw" ["_law_pen_here", "_law_under"] sp_draw) (c_l_ranks : Cal P w K mg base 3 "_law_ranks" ["_law_plan_here"] sp_ranks)
    (c_l_nexts : Cal P w K mg base 1 "_law_nexts" ["_law_ranks_here", "_law_some_here"] sp_nexts) : FnOk P w K mg base CX0 4 f fd ["_law_pen_here", "_law_plan_here"] sp_fall := by
  refine F.ok sc_l_fall (fun vs H Q E h => ?_) (fun cdv A outer s H vs Q E hr h => ?_)
  · obtain ⟨_, _, _, _, _, _, _, _, rfl, _⟩ := h
    rfl
  obtain ⟨q, m, a, ca, sa, sp, xs, sts, rfl, pn, hm, ha, hsa, hst, hsp, hxl, hw, h40, k⟩ := h
  have e64 : ∀ j < (rnk sts (allP sp 0 sts)).length, gE (rnk sts (allP sp 0 sts)) j ≤ 98 := fun j hj => by
    have hm : gE (rnk sts (allP sp 0 sts)) j ∈ rnk sts (allP sp 0 sts) := by
      unfold gE
      rw [List.getD_eq_getElem?_getD, List.getElem?_eq_getElem hj]
      exact List.getElem_mem hj
    obtain ⟨p, _, ep⟩ := List.mem_map.mp hm
    rw [← ep]
    have := List.countP_le_length (p := fun (x : Stp) => x.isNone) (l := sts.take p.1.toNat)
    have h2 : (sts.take p.1.toNat).length ≤ sts.length := by rw [List.length_take]; omega
    have h3 := paired_len hst
    show ((List.countP _ _ : Nat) : Int) ≤ 98
    omega
  have esl : (rnk sts (allP sp 0 sts)).length = (allP sp 0 sts).length := by unfold rnk; rw [List.length_map]
  generalize hes : rnk sts (allP sp 0 sts) = es at k e64 esl
  have rl : es.length ≤ 40 := by rw [← hes]; unfold rnk; rw [List.length_map]; exact h40
  refine ⟨_, (pss_cons (ps_par (i := 2) (j := 3) rfl sc_l_fall.nd rfl rfl (by decide) rfl rfl (pa_cons (pe_cal c_l_ranks hr (pa_cons (pv 1) pa_nil)) (pa_cons (pe_lst' pa_nil) pa_nil)) (by rfl))
    (pss_cons (ps_for PassesOwn.never rfl (pi_range1 rfl T.range (pa_cons (pe_cal c_l_draw hr (pa_cons (pv 0) (pa_cons (pe_op op_add (pe_callB call_len' (by rfl) T.len (by decide +kernel) (pa_cons (pv 2) pa_nil)) pe_int) pa_nil))) pa_nil)) (pg_name (i := 4) sc_l_fall.nd rfl (Or.inl rfl))
      (pss_cons (ps_set (i := 5) sc_l_fall.nd rfl (Or.inl rfl) (pe_cal c_l_nexts hr (pa_cons (pv 2) (pa_cons (pv 3) pa_nil))))
    (pss_one (ps_expr (pe_bm PySem.F.plainAttrs_list PySem.F.slot_list_append PySem.F.type_list_append mt_append (pv 3) (pa_cons (pe_ix ix_seq' (pv 5) (pe_cal c_l_draw hr (pa_cons (pv 0) (pa_cons (pe_callB call_len' (by rfl) T.len (by decide +kernel) (pa_cons (pv 5) pa_nil)) pa_nil))) (fun _ _ => rfl)) pa_nil))))))
    (pss_one (ps_ret (pv 3))))), ?_⟩
  refine ⟨_, rfl, a, ca, sa, sp, xs, sts, rfl, ha, hsa, hst, hsp, by omega, hw, h40, fun r H1 s1 n1 h1 => ?_⟩
  rw [hes] at h1
  refine ⟨szr, fun fo H2 nfo s2 hfo => ⟨_, _, rfl, ?_⟩⟩
  have S2 := s1.trans s2
  have nr := pn.free n1
  have nF : H fo = none := s1.free nfo
  have nf := pn.free nF
  have rf : r ≠ fo := fun z => by rw [← z, h1] at nfo; cases nfo
  refine ⟨_, rfl, _, rfl, r, _, rfl, .inl (s2 _ _ h1), _, _, rfl, rfl, q, m, _, rfl, by omega, by rw [ivs_len]; omega, pn.same S2, by omega, fun d H3 d0 d1 g3 => ⟨_, rfl, by omega, by rw [ivs_len] at d1; omega, ?_⟩⟩
  rw [ivs_len] at d1
  have G3 : Go q (m + 1) H H3 := (Go.of pn S2).trans g3
  refine for_range (lo := 0) (fun i σ' H' => ∃ v4 v5 ps, σ' = [some (.ref q.p), some (.ref a), some (.ref r), some (.ref fo), v4, v5] ∧ Go q (m + 1 + i) H H' ∧ H' r = some (.lst (ivs es)) ∧ H' fo = some (.lst (nvs ps)) ∧ ps.length = i ∧ (∀ p ∈ ps, p < es.length) ∧ lawB es ps = true) ?_ ?_ ?_
  · exact ⟨_, _, [], rfl, G3, g3.kp.lst nr.1 (s2 _ _ h1), g3.kp.lst nf.1 hfo, rfl, fun p hp => absurd hp List.not_mem_nil, rfl⟩
  · rintro i σ' H4 hi ⟨v4, v5, ps, rfl, g4, hr4, hf4, pl, pb, plw⟩
    refine ⟨_, rfl, _, rfl, r, fo, es, ps, rfl, hr4, hf4, rl, by omega, e64, fun l H5 ns s5 n5 h5 nne nb nl => ?_⟩
    have g5 := g4.same s5
    have nl5 : H l = none := g4.none pn n5
    have nL := pn.free nl5
    have np : 0 < ns.length := List.length_pos_iff.mpr nne
    refine ⟨_, rfl, .inl ⟨rfl, _, SqL.of (s5 _ _ hf4)⟩, _, rfl, _, rfl, _, rfl, l, _, rfl, .inl h5, q, _, _, rfl, by rw [nvs_len]; omega, by rw [nvs_len]; omega, g5.pen, by omega, fun e H6 e0 e1 g6 => ?_⟩
    rw [nvs_len] at e1
    obtain ⟨n, rfl⟩ := Int.eq_ofNat_of_zero_le e0
    have nlt : n < ns.length := by omega
    have h6 := g6.kp.lst nL.1 h5
    have hf6 := g6.kp.lst nf.1 (s5 _ _ hf4)
    refine ⟨l, _, _, _, rfl, rfl, .inl h6, atI_nat (nvs_get nlt), fo, _, _, rfl, rfl, hf6, szl (by rw [nvs_len]; omega), ?_⟩
    refine ⟨_, _, ps ++ [ns[n]], rfl, (Go.mut pn nF (g5.trans g6)).mono (by omega), ?_, ?_, by rw [List.length_append, pl]; rfl, fun p hp => ?_, law_snoc plw (nb _ (List.getElem_mem nlt)).2.1 (nb _ (List.getElem_mem nlt)).2.2⟩
    · rw [upd_ne rf]
      exact g6.kp.lst nr.1 (s5 _ _ hr4)
    · rw [upd_same, nvs_app]
      rfl
    · rcases List.mem_append.mp hp with hp | hp
      · exact pb p hp
      · rw [List.mem_singleton.mp hp]
        exact (nb _ (List.getElem_mem nlt)).1
  · rintro σ' H4 ⟨v4, v5, ps, rfl, g4, hr4, hf4, pl, pb, plw⟩
    exact ⟨_, rfl, k fo H4 ps (g4.mono (by omega)) nF hf4 (by omega) (fun p hp => by rw [← esl]; exact pb p hp) plw⟩
end
end Af

set_option Elab.async false
set_option linter.all false
set_option maxRecDepth 100000
namespace L2
open PySem PySem.Spec PyProof.Rows
/-! list(range(8, 0, -1)) -/
section
variable {X : Cx}
def tLst3 (ta : TA) : TE := fun σ H Q => ta σ H fun vs H1 => vs = [.int 8, .int 0, .int (-1)] ∧ ∀ q, H1 q = none → Q (.ref q) (upd H1 q (.lst ([8, 7, 6, 5, 4, 3, 2, 1].map V.int)))
theorem pe_listRg3 {a b c : Expr} {ta : TA} {p p2 pos pos2 : Pos} (hg : Gl X "list") (hm : X.mg "list" = none) (hg2 : Gl X "range") (hm2 : X.mg "range" = none) (ha : PA X [a, b, c] ta) (hc : X.calm = true := by rfl)
    (hs : starEach [a, b, c] X.env = (false, eval a X.env) :: starEach [b, c] X.env := by rfl) (hpl : (backTo pos2 (starEach [b, c] X.env)).any (·.1) = false := by rfl)
    (na : starEach [.Call (.Name "range" p2) [a, b, c] [] pos2] X.env = (false, eval (.Call (.Name "range" p2) [a, b, c] [] pos2) X.env) :: starEach [] X.env := by rfl) :
    PE X (.Call (.Name "list" p) [.Call (.Name "range" p2) [a, b, c] [] pos2] [] pos) (tLst3 ta) := by
  refine ⟨fun pins s σ H Q I h => ?_⟩
  have inner : wpAny (model X.prog X.w) X.A (eval (.Call (.Name "range" p2) [a, b, c] [] pos2) X.env) (fun x s' => ∃ r t u v H', x = .ref r ∧ IsRange s'.heap r 8 0 (-1) t u v ∧ Inv X pins σ H' s' ∧ ∀ q, H' q = none → Q (.ref q) (upd H' q (.lst ([8, 7, 6, 5, 4, 3, 2, 1].map V.int)))) X.xe s := by
    refine Call_ (ld_blt I hg2 hm2 boot_range (PyProof.Rows.callWith_type1 (thn (ha.run pos2 pins s σ H _ I h) fun us s1 ⟨vs, H1, I1, r1, q1⟩ => ?_) hs hpl))
    obtain ⟨e, q⟩ := q1
    subst e
    cases r1 with
    | cons r rr =>
      cases rr with
      | cons r' rr =>
        cases rr with
        | cons r'' rr =>
          cases rr
          obtain ⟨t, rfl⟩ := r
          obtain ⟨t', rfl⟩ := r'
          obtain ⟨t'', rfl⟩ := r''
          refine call_range_3 (by decide) ?_ (.inl (PyProof.noPylong_small (by decide +kernel)))
          exact ⟨_, _, _, _, H1, rfl, IsRange.new _ _ _ _ _ _ _, I1.kept (t' := s1.toks) fun b u e => Heap.get?_push_of_some _ e, q⟩
  refine Call_ (ld_blt I hg hm boot_list (PyProof.Rows.callWith_type1 (args_cons (thn inner fun x s1 ⟨r, t, u, v, H1, ex, hr, I1, q⟩ => args_nil ?_) na) na))
  subst ex
  refine call_list_range (n := 8) (I1.ok.hd hc) hr (by decide +kernel) (by decide +kernel) (by decide) fun h' tk acc c' hk e' hi => ?_
  refine ⟨.ref s1.heap.objs.size, upd H1 s1.heap.objs.size (.lst ([8, 7, 6, 5, 4, 3, 2, 1].map V.int)), I1.laid hk (Nat.le_refl _) (show ObjOk X.prog X.w _ _ _ (.lst _) from ⟨?_, acc.toList, c', ?_, ?_⟩), rfl, q _ (I1.hok.fresh (Nat.le_refl _))⟩
  · show 8 ≤ sizeLine
    decide
  · have e : acc.toList.length = 8 := by rw [Array.length_toList]; exact hi.1
    have z := vals_of_get acc.toList (fun m => V.int (8 + (m : Int) * (-1))) fun j u hj => hi.2 j u (by rw [← hj, Array.getElem?_toList])
    rw [e] at z
    exact z
  · rw [Array.toArray_toList]
    exact e'
end
end L2

set_option Elab.async false
set_option linter.all false
set_option maxRecDepth 100000
set_option maxHeartbeats 4000000
namespace Af
open PySem L2
abbrev s_behind_piece : Stmt := top 33
abbrev N_behind_piece : List Str := ["content", "piece", "_", "first", "worths"]
theorem sc_behind_piece : FnScope N_behind_piece ["content", "piece"] (defScope s_behind_piece) := ⟨rfl, rfl, rfl, by decide +kernel, rfl, by decide +kernel, by decide +kernel⟩

abbrev s_overwritten : Stmt := top 32
abbrev N_overwritten : List Str := ["plan", "fall", "content", "pieces", "piece"]
theorem sc_overwritten : FnScope N_overwritten ["plan", "fall"] (defScope s_overwritten) := ⟨rfl, rfl, rfl, by decide +kernel, rfl, by decide +kernel, by decide +kernel⟩

abbrev s_l_left : Stmt := top 56
abbrev N_l_left : List Str := ["_law_plan_here", "_law_some_here", "_law_parts_here", "_law_found", "_law_one", "_law_index", "_law_first", "_law_worths_here", "_law_k"]
theorem sc_l_left : FnScope N_l_left ["_law_plan_here", "_law_some_here"] (defScope s_l_left) := ⟨rfl, rfl, rfl, by decide +kernel, rfl, by decide +kernel, by decide +kernel⟩

theorem spl_in {w : Int} : ∀ (r acc : List Int) (st pos : Int), pos = st + (acc.length : Int) → ∀ p ∈ spl w st acc pos r, st ≤ p.1 ∧ p.1 + (p.2.length : Int) ≤ pos + (r.length : Int)
  | [], acc, st, pos, h, p, hp => by
    have e : p = (st, acc) := List.mem_singleton.mp hp
    subst e
    refine ⟨Int.le_refl _, ?_⟩
    show st + (acc.length : Int) ≤ pos + ((0 : Nat) : Int)
    omega
  | x :: r, acc, st, pos, h, p, hp => by
    have le : (((x :: r).length : Nat) : Int) = (r.length : Int) + 1 := by rw [List.length_cons]; rfl
    by_cases c : acc ≠ [] ∧ pos % w = 0
    · rw [spl_cut c] at hp
      rcases List.mem_cons.mp hp with e | hp
      · subst e
        refine ⟨Int.le_refl _, ?_⟩
        show st + (acc.length : Int) ≤ _
        omega
      · obtain ⟨h1, h2⟩ := spl_in r [x] pos (pos + 1) (by show pos + 1 = pos + ((1 : Nat) : Int); rfl) p hp
        omega
    · rw [spl_go c] at hp
      obtain ⟨h1, h2⟩ := spl_in r (acc ++ [x]) st (pos + 1) (by rw [List.length_append]; show pos + 1 = st + ((acc.length + 1 : Nat) : Int); omega) p hp
      omega
theorem allP_fit {w : Int} {n : Nat} : ∀ {l : List Stp} {i : Nat}, (∀ x ∈ l, OkS n x) → ∀ p ∈ allP w i l, 0 ≤ p.2.1 ∧ p.2.1 + (p.2.2.length : Int) ≤ (n : Int)
  | [], _, _, p, hp => by cases hp
  | a :: l, i, h, p, hp => by
    have hp : p ∈ oneP w i a ++ allP w (i + 1) l := hp
    rcases List.mem_append.mp hp with hp | hp
    · have o := h a List.mem_cons_self
      cases a with
      | none => cases hp
      | some fw =>
        obtain ⟨f, ws⟩ := fw
        obtain ⟨o1, o2, o3, _⟩ := o
        obtain ⟨q, hq, rfl⟩ := List.mem_map.mp hp
        obtain ⟨h1, h2⟩ := spl_in ws [] f f (by show f = f + ((0 : Nat) : Int); omega) q hq
        show 0 ≤ q.1 ∧ q.1 + (q.2.length : Int) ≤ (n : Int)
        omega
    · exact allP_fit (fun x hx => h x (List.mem_cons_of_mem _ hx)) p hp
/-- a content behind a piece, behind a fall -/
def behF (c : List Int) (p : Int × (Int × List Int)) : List Int := c.take p.2.1.toNat ++ p.2.2 ++ c.drop (p.2.1.toNat + p.2.2.length)
def pcAt (ps : List (Int × (Int × List Int))) (k : Nat) : Int × (Int × List Int) := ps.getD k (0, (0, []))
def overF (ps : List (Int × (Int × List Int))) (c : List Int) (ls : List Nat) : List Int := ls.foldl (fun c k => behF c (pcAt ps k)) c
theorem behF_len {c : List Int} {p : Int × (Int × List Int)} (h0 : 0 ≤ p.2.1) (h1 : p.2.1 + (p.2.2.length : Int) ≤ (c.length : Int)) : (behF c p).length = c.length := by
  unfold behF
  rw [List.length_append, List.length_append, List.length_take, List.length_drop]
  omega
theorem overF_snoc (ps : List (Int × (Int × List Int))) (c : List Int) (ls : List Nat) (k : Nat) : overF ps c (ls ++ [k]) = behF (overF ps c ls) (pcAt ps k) := by
  unfold overF
  rw [List.foldl_append]
  rfl
theorem overF_len {ps : List (Int × (Int × List Int))} {n : Nat} (hb : ∀ p ∈ ps, 0 ≤ p.2.1 ∧ p.2.1 + (p.2.2.length : Int) ≤ (n : Int)) : ∀ (ls : List Nat) (c : List Int), c.length = n → (∀ k ∈ ls, k < ps.length) → (overF ps c ls).length = n
  | [], c, h, _ => h
  | k :: ls, c, h, hk => by
    have kl : k < ps.length := hk k List.mem_cons_self
    have pm : pcAt ps k ∈ ps := by
      unfold pcAt
      rw [List.getD_eq_getElem?_getD, List.getElem?_eq_getElem kl]
      exact List.getElem_mem kl
    obtain ⟨b1, b2⟩ := hb _ pm
    exact overF_len hb ls (behF c (pcAt ps k)) (by rw [behF_len b1 (by rw [h]; exact b2), h]) fun x hx => hk x (List.mem_cons_of_mem _ hx)
theorem nvs_snoc (ps : List Nat) (p : Nat) : nvs (ps ++ [p]) = nvs ps ++ [.int ((p : Nat) : Int)] := by rw [nvs_app]; rfl
theorem nvs_lt {ps : List Nat} {i : Nat} {y : V} (h : (nvs ps)[i]? = some y) : ∃ hi : i < ps.length, y = .int ((ps[i] : Nat) : Int) := by
  have il : i < ps.length := by rw [← nvs_len]; exact (List.getElem?_eq_some_iff.mp h).1
  rw [nvs_get il] at h
  exact ⟨il, (Option.some.inj h).symm⟩
/-- a content, partly overwritten -/
def midF (c : List Int) (n : Nat) (ws : List Int) (j : Nat) : List Int := c.take n ++ ws.take j ++ c.drop (n + j)
theorem midF_set {c : List Int} {n : Nat} {ws : List Int} {j : Nat} (hj : j < ws.length) (hn : n + ws.length ≤ c.length) : (midF c n ws j).set (n + j) ws[j] = midF c n ws (j + 1) := by
  unfold midF
  have l1 : (c.take n ++ ws.take j).length = n + j := by rw [List.length_append, List.length_take, List.length_take]; omega
  rw [List.drop_eq_getElem_cons (show n + j < c.length by omega), List.set_append, if_neg (by omega), l1, Nat.sub_self, List.set_cons_zero, List.take_add_one, List.getElem?_eq_getElem hj, Nat.add_assoc]
  show _ = c.take n ++ (ws.take j ++ [ws[j]]) ++ _
  rw [List.append_assoc, List.append_assoc, List.append_assoc]
  rfl
theorem midF_len {c : List Int} {n : Nat} {ws : List Int} {j : Nat} (hj : j ≤ ws.length) (hn : n + ws.length ≤ c.length) : (midF c n ws j).length = c.length := by
  unfold midF
  rw [List.length_append, List.length_append, List.length_take, List.length_take, List.length_drop]
  omega
theorem ivs_set (c : List Int) (n : Nat) (z : Int) : (ivs c).set n (.int z) = ivs (c.set n z) := by unfold ivs; rw [List.map_set]
theorem cut_fr (xs : List V) (n : Nat) : cutV xs (some (n : Int)) none = xs.drop n := by
  unfold cutV
  have e1 : HT.sIx xs.length 0 (some (n : Int)) = min n xs.length := HT.sIx_nat _ _ n
  have e2 : HT.sIx xs.length xs.length none = xs.length := rfl
  rw [e1, e2]
  by_cases h : n ≤ xs.length
  · rw [Nat.min_eq_left h, List.take_of_length_le (by rw [List.length_drop]; exact Nat.le_refl _)]
  · rw [Nat.min_eq_right (by omega), Nat.sub_self, List.take_zero, List.drop_of_length_le (by omega)]
theorem ivs_take (c : List Int) (n : Nat) : (ivs c).take n = ivs (c.take n) := by unfold ivs; rw [List.map_take]
theorem ivs_drop (c : List Int) (n : Nat) : (ivs c).drop n = ivs (c.drop n) := by unfold ivs; rw [List.map_drop]
theorem ivs_app (a b : List Int) : ivs a ++ ivs b = ivs (a ++ b) := by unfold ivs; rw [List.map_append]
def sp_behind : Sp := fun vs H Q _ => ∃ (ca : Addr) (c : List Int) (x : V) (p : Int × (Int × List Int)), vs = [.ref ca, x] ∧ H ca = some (.tup (ivs c)) ∧ PieceA H x p ∧ 0 ≤ p.2.1 ∧ p.2.1 + (p.2.2.length : Int) ≤ (c.length : Int) ∧ c.length ≤ 1000 ∧ ∀ a H', Same H H' → H' a = some (.tup (ivs (behF c p))) → Q (.ref a) H'
def sp_over (C : Addr) : Sp := fun vs H Q _ => ∃ (x : V) (pl : Pl) (sl ql el b : Addr) (ls : List Nat), vs = [x, .ref b] ∧ PlanF C H x pl sl ql el ∧ H b = some (.lst (nvs ls)) ∧ (∀ k ∈ ls, k < (allP pl.w 0 pl.sts).length) ∧ ls.length ≤ 60 ∧ ∀ a H', Same H H' → H' a = some (.tup (ivs (overF (allP pl.w 0 pl.sts) pl.cs ls))) → Q (.ref a) H'
def sp_left : Sp := fun vs H Q _ => ∃ (a ca sa b : Addr) (sp : Int) (xs : List V) (sts : List Stp) (cs : List Int) (ls : List Nat), vs = [.ref a, .ref b] ∧ H a = some (.tup [.ref ca, .int sp, .ref sa]) ∧ H ca = some (.tup (ivs cs)) ∧ H sa = some (.lst xs) ∧ Paired (StepV H) xs sts ∧ 0 < sp ∧ xs.length ≤ 100 ∧
  (∀ x ∈ sts, OkS cs.length x) ∧ cs.length ≤ 24 ∧ H b = some (.lst (nvs ls)) ∧ (∀ k ∈ ls, k < (allP sp 0 sts).length) ∧ ls.length ≤ 60 ∧ ∀ t H', Same H H' → H' t = some (.tup (ivs (overF (allP sp 0 sts) cs ls))) → Q (.ref t) H'
section
variable {P : Program} {w : World} {K : PySem.W.Frag} {mg : Str → Option Value} {base : Heap}
theorem ok_behind {f : Addr} {fd : FuncData} (F : Fun K "behind_piece" "behind_piece" s_behind_piece f fd) (T : Txt mg) : FnOk P w K mg base CX0 1 f fd ["content", "piece"] sp_behind := by
  refine F.ok sc_behind_piece (fun vs H Q E h => ?_) (fun cdv A outer s H vs Q E hr h => ?_)
  · obtain ⟨_, _, _, _, rfl, _⟩ := h
    rfl
  obtain ⟨ca, c, x, ⟨ix, pf, ws⟩, rfl, hca, ⟨t, b, rfl, ht, hb⟩, h0, h1, cl, k⟩ := h
  have h0 : 0 ≤ pf := h0
  have h1 : pf + (ws.length : Int) ≤ (c.length : Int) := h1
  have hb : H b = some (.tup (ivs ws)) := hb
  obtain ⟨n, rfl⟩ := Int.eq_ofNat_of_zero_le h0
  refine ⟨_, (pss_cons (ps_asg (pv 1) (pg_tup rfl (pgs_cons (pg_name (i := 2) sc_behind_piece.nd rfl (Or.inl rfl)) (pgs_cons (pg_name (i := 3) sc_behind_piece.nd rfl (Or.inl rfl)) (pgs_cons (pg_name (i := 4) sc_behind_piece.nd rfl (Or.inl rfl)) pgs_nil)))))
    (pss_one (ps_ret (pe_op op_catT' (pe_op op_catT' (pe_slice sl_tup' (pv 0) po_none (po_some (pv 3))) (pv 4)) (pe_slice sl_tup' (pv 0) (po_some (pe_op op_add (pv 3) (pe_callB call_len' (by rfl) T.len (by decide +kernel) (pa_cons (pv 4) pa_nil)))) po_none))))), ?_⟩
  refine ⟨_, rfl, t, _, rfl, SqT.of ht, rfl, _, _, rfl, _, _, rfl, _, _, rfl, rfl, ?_⟩
  refine ⟨_, rfl, _, rfl, _, rfl, ca, _, rfl, hca, fun a1 H1 s1 j1 => ?_⟩
  refine ⟨_, rfl, a1, b, _, _, rfl, rfl, j1, s1 _ _ hb, sz ?_, fun a2 H2 s2 j2 => ?_⟩
  · refine Nat.le_trans (Nat.add_le_add (cutV_length _ _ _) (Nat.le_refl _)) ?_
    rw [ivs_len, ivs_len]
    omega
  rw [cut_to, ivs_take, ivs_app] at j2
  have S2 := s1.trans s2
  refine ⟨_, rfl, _, rfl, _, rfl, b, _, rfl, .inr (S2 _ _ hb), _, _, rfl, rfl, _, rfl, ca, _, rfl, S2 _ _ hca, fun a3 H3 s3 j3 => ?_⟩
  rw [ivs_len, show ((n : Nat) : Int) + ((ws.length : Nat) : Int) = ((n + ws.length : Nat) : Int) from rfl, cut_fr, ivs_drop] at j3
  refine ⟨a2, a3, _, _, rfl, rfl, s3 _ _ j2, j3, sz ?_, fun a4 H4 s4 j4 => ?_⟩
  · rw [ivs_len, ivs_len, List.length_append, List.length_take, List.length_drop]
    omega
  rw [ivs_app] at j4
  exact k a4 H4 (S2.trans (s3.trans s4)) j4
theorem ok_over {f C : Addr} {fd : FuncData} (F : Fun K "overwritten" "overwritten" s_overwritten f fd) (T : Txt mg) (TC : PlanC K mg C) (P_base : PropC P w K mg base C "base" (sp_p_base C)) (P_pieces : PropC P w K mg base C "pieces" (sp_p_pieces C))
    (c_behind_piece : Cal P w K mg base 1 "behind_piece" ["content", "piece"] sp_behind) : FnOk P w K mg base CX0 3 f fd ["plan", "fall"] (sp_over C) := by
  refine F.ok sc_overwritten (fun vs H Q E h => ?_) (fun cdv A outer s H vs Q E hr h => ?_)
  · obtain ⟨_, _, _, _, _, _, _, rfl, _⟩ := h
    rfl
  obtain ⟨x, pl, sl, ql, el, b, ls, rfl, pF, hb, lb, ll, k⟩ := h
  have ib := allP_fit (w := pl.w) (i := 0) pF.ok.st
  have c24 := pF.ok.c24
  obtain ⟨pa, ca, xs0, ys0, rfl, pX, hca, hst, hps⟩ := pF.ex
  obtain ⟨⟨dx, fs, hx, _⟩, _⟩ := id pX
  have yl := paired_len hps
  refine ⟨_, (pss_cons (ps_par (i := 2) (j := 3) rfl sc_overwritten.nd rfl rfl (by decide) rfl rfl (pa_cons (pe_propC TC.cl P_base hr (pv 0)) (pa_cons (pe_propC TC.cl P_pieces hr (pv 0)) pa_nil)) (by rfl))
    (pss_cons (ps_for PassesOwn.never rfl (pi_list (pv 1)) (pg_name (i := 4) sc_overwritten.nd rfl (Or.inl rfl))
      (pss_one (ps_set (i := 2) sc_overwritten.nd rfl (Or.inl rfl) (pe_cal c_behind_piece hr (pa_cons (pv 2) (pa_cons (pe_ix ix_seq' (pv 3) (pv 4) (fun _ _ => rfl)) pa_nil))))))
    (pss_one (ps_ret (pv 2))))), ?_⟩
  refine ⟨_, rfl, pa, dx, fs, rfl, hx, pa, ca, sl, ql, el, pl, xs0, ys0, rfl, pX, ?_⟩
  refine ⟨_, rfl, pa, dx, fs, rfl, hx, pa, ca, sl, ql, el, pl, xs0, ys0, rfl, pX, fun l1 H1 s1 n1 h1 => ?_⟩
  refine ⟨_, _, rfl, ?_⟩
  refine ⟨_, rfl, b, rfl, ⟨_, SqL.of (s1 _ _ hb)⟩, for_list (K := K) (a := b) (xs := nvs ls) (fun i σ' H' => ∃ cc v4, σ' = [some (.ref pa), some (.ref b), some (.ref cc), some (.ref l1), v4] ∧ Same H1 H' ∧ H' cc = some (.tup (ivs (overF (allP pl.w 0 pl.sts) pl.cs (ls.take i))))) ?_ ?_ ?_ ?_⟩
  · exact ⟨ca, _, rfl, Same.refl _, s1 _ _ hca⟩
  · rintro i σ' H' _ ⟨_, _, rfl, s2, _⟩
    exact SqL.of (s2 _ _ (s1 _ _ hb))
  · rintro i y σ' H' hy ⟨cc, v4, rfl, s2, h2⟩
    obtain ⟨il, rfl⟩ := nvs_lt hy
    have kl := lb _ (List.getElem_mem il)
    have kl2 : ls[i] < ys0.length := by omega
    obtain ⟨e, he, ep⟩ := paired_get (pieceA_st (s1.trans s2) hps) (List.getElem?_eq_getElem kl2)
    have em := ib _ (List.mem_of_getElem? he)
    have len := overF_len ib (ls.take i) pl.cs rfl fun k hk => lb k (List.mem_of_mem_take hk)
    refine ⟨_, rfl, _, rfl, _, rfl, l1, _, _, _, rfl, rfl, .inl (s2 _ _ h1), atI_nat (List.getElem?_eq_getElem kl2), ?_⟩
    refine ⟨cc, _, _, e, rfl, h2, ep, em.1, by rw [len]; exact em.2, by rw [len]; omega, fun a H2 s3 h3 => ⟨a, _, rfl, s2.trans s3, ?_⟩⟩
    have tk : ls.take (i + 1) = ls.take i ++ [ls[i]] := by rw [List.take_add_one, List.getElem?_eq_getElem il]; rfl
    rw [h3, tk, overF_snoc]
    unfold pcAt
    rw [List.getD_eq_getElem?_getD, he]
    rfl
  · rintro σ' H' ⟨cc, v4, rfl, s2, h2⟩
    rw [nvs_len, List.take_length] at h2
    exact ⟨_, rfl, k cc H' (s1.trans s2) h2⟩
theorem ok_left {f : Addr} {fd : FuncData} (F : Fun K "_law_left" "_law_left" s_l_left f fd) (T : Txt mg) (c_l_parts : Cal P w K mg base 2 "_law_parts" ["_law_plan_here"] sp_partsX) : FnOk P w K mg base CX0 3 f fd ["_law_plan_here", "_law_some_here"] sp_left := by
  refine F.ok sc_l_left (fun vs H Q E h => ?_) (fun cdv A outer s H vs Q E hr h => ?_)
  · obtain ⟨_, _, _, _, _, _, _, _, _, rfl, _⟩ := h
    rfl
  obtain ⟨a, ca, sa, b, sp, xs, sts, cs, ls, rfl, ha, hca, hsa, hst, hsp, hxl, oks, c24, hb, lb, ll, k⟩ := h
  have ib := allP_fit (w := sp) (i := 0) oks
  have hw : ∀ f ws, some (f, ws) ∈ sts → ws.length ≤ 100 := fun f ws hm => by
    obtain ⟨o1, _, o3, _⟩ := oks _ hm
    omega
  refine ⟨_, (pss_cons (ps_par (i := 2) (j := 3) rfl sc_l_left.nd rfl rfl (by decide) rfl rfl (pa_cons (pe_cal c_l_parts hr (pa_cons (pv 0) pa_nil)) (pa_cons (pe_callTy call_list' (by rfl) T.list (by decide +kernel) (pa_cons (pe_ix ix_seq' (pv 0) pe_int (fun _ _ => rfl)) pa_nil)) pa_nil)) (by rfl))
    (pss_cons (ps_for PassesOwn.never rfl (pi_list (pv 1)) (pg_name (i := 4) sc_l_left.nd rfl (Or.inl rfl))
      (pss_cons (ps_asg (pe_ix ix_seq' (pv 2) (pv 4) (fun _ _ => rfl)) (pg_tup rfl (pgs_cons (pg_name (i := 5) sc_l_left.nd rfl (Or.inl rfl)) (pgs_cons (pg_name (i := 6) sc_l_left.nd rfl (Or.inl rfl)) (pgs_cons (pg_name (i := 7) sc_l_left.nd rfl (Or.inl rfl)) pgs_nil)))))
    (pss_one (ps_for PassesOwn.never rfl (pi_range1 rfl T.range (pa_cons (pe_callB call_len' (by rfl) T.len (by decide +kernel) (pa_cons (pv 7) pa_nil)) pa_nil)) (pg_name (i := 8) sc_l_left.nd rfl (Or.inl rfl))
      (pss_one (ps_asg (pe_ix ix_seq' (pv 7) (pv 8) (fun _ _ => rfl)) (pg_sub (pv 3) (pe_op op_add (pv 6) (pv 8)) set_list)))))))
    (pss_one (ps_ret (pe_callTy call_tuple' (by rfl) T.tuple (by decide +kernel) (pa_cons (pv 3) pa_nil)))))), ?_⟩
  refine ⟨_, rfl, a, ca, sa, sp, xs, sts, rfl, ha, hsa, hst, hsp, hxl, hw, fun l1 H1 ys s1 n1 h1 hp => ?_⟩
  refine ⟨_, rfl, a, _, _, _, rfl, rfl, .inr (s1 _ _ ha), atI_nat (j := 0) rfl, ca, _, rfl, .inr (s1 _ _ hca), fun f0 H2 n2 s2 h2 => ?_⟩
  have yl := paired_len hp
  refine ⟨_, _, rfl, ?_⟩
  refine ⟨_, rfl, b, rfl, ⟨_, SqL.of (s2 _ _ (s1 _ _ hb))⟩, for_list (K := K) (a := b) (xs := nvs ls) (fun i σ' H' => ∃ v4 v5 v6 v7 v8, σ' = [some (.ref a), some (.ref b), some (.ref l1), some (.ref f0), v4, v5, v6, v7, v8] ∧ Same H1 H' ∧ H' f0 = some (.lst (ivs (overF (allP sp 0 sts) cs (ls.take i))))) ?_ ?_ ?_ ?_⟩
  · exact ⟨_, _, _, _, _, rfl, s2, h2⟩
  · rintro i σ' H' _ ⟨_, _, _, _, _, rfl, s3, _⟩
    exact SqL.of (s3 _ _ (s1 _ _ hb))
  · rintro i y σ' H3 hy ⟨v4, v5, v6, v7, v8, rfl, s3, h3⟩
    obtain ⟨il, rfl⟩ := nvs_lt hy
    have kl := lb _ (List.getElem_mem il)
    have kl2 : ls[i] < ys.length := by omega
    obtain ⟨⟨ix, pf, ws⟩, he, t, b', ey, ht, hb'⟩ := paired_get (pieceA_st s3 hp) (List.getElem?_eq_getElem kl2)
    have em := ib _ (List.mem_of_getElem? he)
    have e0 : 0 ≤ pf := em.1
    have e1 : pf + (ws.length : Int) ≤ (cs.length : Int) := em.2
    have hb' : H3 b' = some (.tup (ivs ws)) := hb'
    obtain ⟨n, rfl⟩ := Int.eq_ofNat_of_zero_le e0
    have len := overF_len ib (ls.take i) cs rfl fun k hk => lb k (List.mem_of_mem_take hk)
    have hcl : n + ws.length ≤ (overF (allP sp 0 sts) cs (ls.take i)).length := by rw [len]; omega
    generalize hc : overF (allP sp 0 sts) cs (ls.take i) = c at h3 len hcl
    refine ⟨_, rfl, _, rfl, l1, _, _, _, rfl, rfl, .inl (s3 _ _ h1), atI_nat (List.getElem?_eq_getElem kl2), ?_⟩
    rw [ey]
    refine ⟨t, _, rfl, SqT.of ht, rfl, _, _, rfl, _, _, rfl, _, _, rfl, rfl, ?_⟩
    refine ⟨_, rfl, b', _, rfl, .inr hb', _, rfl, by rw [ivs_len]; omega, by rw [ivs_len]; omega, for_range (lo := 0) (fun j σ' H' => ∃ v8, σ' = [some (.ref a), some (.ref b), some (.ref l1), some (.ref f0), some (.int ((ls[i] : Nat) : Int)), some (.int ix), some (.int (n : Nat)), some (.ref b'), v8] ∧ Same H1 H' ∧ H' b' = some (.tup (ivs ws)) ∧ H' f0 = some (.lst (ivs (midF c n ws j)))) ?_ ?_ ?_⟩
    · refine ⟨_, rfl, s3, hb', ?_⟩
      rw [h3]
      unfold midF
      rw [List.take_zero, List.append_nil, Nat.add_zero, List.take_append_drop]
    · rintro j σ' H4 hj ⟨v8, rfl, s4, hb4, h4⟩
      rw [ivs_len, Int.toNat_natCast] at hj
      have hj : j < ws.length := hj
      have bf : b' ≠ f0 := fun e => by rw [e, h4] at hb4; cases hb4
      refine ⟨_, rfl, _, rfl, b', _, _, _, rfl, rfl, .inr hb4, at_of (Int.zero_add _) (ivs_get hj), ?_⟩
      refine ⟨_, rfl, _, rfl, _, rfl, _, _, rfl, rfl, f0, _, _, n + j, rfl, rfl, h4, ?_, ?_⟩
      · unfold ixN
        rw [if_pos (by omega), if_pos (by rw [ivs_len, midF_len (Nat.le_of_lt hj) hcl]; omega)]
        congr 1
        omega
      · refine ⟨_, rfl, same_mut s4 n2, by rw [upd_ne bf]; exact hb4, ?_⟩
        rw [upd_same, ivs_set, midF_set hj hcl]
    · rintro σ' H4 ⟨v8, rfl, s4, hb4, h4⟩
      rw [ivs_len, Int.toNat_natCast] at h4
      refine ⟨_, _, _, _, _, rfl, s4, ?_⟩
      have tk : ls.take (i + 1) = ls.take i ++ [ls[i]] := by rw [List.take_add_one, List.getElem?_eq_getElem il]; rfl
      rw [h4, tk, overF_snoc, hc]
      unfold pcAt
      rw [List.getD_eq_getElem?_getD, he]
      show some (HO.lst (ivs (midF c n ws ws.length))) = some (HO.lst (ivs (c.take (((n : Nat) : Int)).toNat ++ ws ++ c.drop ((((n : Nat) : Int)).toNat + ws.length))))
      unfold midF
      rw [List.take_length, Int.toNat_natCast]
  · rintro σ' H3 ⟨v4, v5, v6, v7, v8, rfl, s3, h3⟩
    rw [nvs_len, List.take_length] at h3
    exact ⟨_, rfl, f0, _, rfl, .inl h3, fun t H4 s4 h4 => k t H4 (s1.trans (s3.trans s4)) h4⟩
end
end Af

set_option Elab.async false
set_option linter.all false
set_option maxRecDepth 100000
set_option maxHeartbeats 4000000
namespace Af
open PySem PySem.Spec PyProof.Rows L2
/-! data with dicts within, their keys ints and texts; its repr -/
def keyD : L2.Key → PyData
  | .inl i => .int i
  | .inr x => .str x
mutual
inductive Dx (K : PySem.W.Frag) (H : Hp) : V → PyData → Prop
  | non : Dx K H .non .none
  | bl (b : Bool) : Dx K H (.bl b) (.bool b)
  | int (i : Int) : Dx K H (.int i) (.int i)
  | str (x : Str) : Dx K H (.str x) (.str x)
  | lst {a : Addr} {xs : List V} {ds : List PyData} : H a = some (.lst xs) → DxAll K H xs ds → Dx K H (.ref a) (.list ds)
  | tup {a : Addr} {xs : List V} {ds : List PyData} : H a = some (.tup xs) → DxAll K H xs ds → Dx K H (.ref a) (.tuple ds)
  | dic {a : Addr} {rows : List (L2.Key × V)} {kvs : List (PyData × PyData)} : H a = some (.dK rows) → DxKv K H rows kvs → Dx K H (.ref a) (.dict kvs)
inductive DxAll (K : PySem.W.Frag) (H : Hp) : List V → List PyData → Prop
  | nil : DxAll K H [] []
  | cons {v : V} {vs : List V} {d : PyData} {ds : List PyData} : Dx K H v d → DxAll K H vs ds → DxAll K H (v :: vs) (d :: ds)
inductive DxKv (K : PySem.W.Frag) (H : Hp) : List (L2.Key × V) → List (PyData × PyData) → Prop
  | nil : DxKv K H [] []
  | cons {k : L2.Key} {v : V} {rows : List (L2.Key × V)} {d : PyData} {kvs : List (PyData × PyData)} : Dx K H v d → DxKv K H rows kvs → DxKv K H ((k, v) :: rows) ((keyD k, d) :: kvs)
end
mutual
theorem Dx.of {K : PySem.W.Frag} {H : Hp} : ∀ {v : V} {d : PyData}, Dq K H v d → Dx K H v d
  | _, _, .non => .non
  | _, _, .bl b => .bl b
  | _, _, .int i => .int i
  | _, _, .str x => .str x
  | _, _, .lst e t => .lst e (DxAll.of t)
  | _, _, .tup e t => .tup e (DxAll.of t)
  | _, _, .dic e => .dic e .nil
theorem DxAll.of {K : PySem.W.Frag} {H : Hp} : ∀ {v : List V} {d : List PyData}, DqAll K H v d → DxAll K H v d
  | _, _, .nil => .nil
  | _, _, .cons h t => .cons (Dx.of h) (DxAll.of t)
end
mutual
theorem Dx.same {K : PySem.W.Frag} {H H' : Hp} (s : Same H H') : ∀ {v : V} {d : PyData}, Dx K H v d → Dx K H' v d
  | _, _, .non => .non
  | _, _, .bl b => .bl b
  | _, _, .int i => .int i
  | _, _, .str x => .str x
  | _, _, .lst e t => .lst (s _ _ e) (DxAll.same s t)
  | _, _, .tup e t => .tup (s _ _ e) (DxAll.same s t)
  | _, _, .dic e t => .dic (s _ _ e) (DxKv.same s t)
theorem DxAll.same {K : PySem.W.Frag} {H H' : Hp} (s : Same H H') : ∀ {v : List V} {d : List PyData}, DxAll K H v d → DxAll K H' v d
  | _, _, .nil => .nil
  | _, _, .cons h t => .cons (Dx.same s h) (DxAll.same s t)
theorem DxKv.same {K : PySem.W.Frag} {H H' : Hp} (s : Same H H') : ∀ {v : List (L2.Key × V)} {d : List (PyData × PyData)}, DxKv K H v d → DxKv K H' v d
  | _, _, .nil => .nil
  | _, _, .cons h t => .cons (Dx.same s h) (DxKv.same s t)
end
theorem DxAll.len {K : PySem.W.Frag} {H : Hp} : ∀ {v : List V} {d : List PyData}, DxAll K H v d → v.length = d.length
  | _, _, .nil => rfl
  | _, _, .cons _ t => by rw [List.length_cons, List.length_cons, t.len]
theorem DxKv.len {K : PySem.W.Frag} {H : Hp} : ∀ {v : List (L2.Key × V)} {d : List (PyData × PyData)}, DxKv K H v d → v.length = d.length
  | _, _, .nil => rfl
  | _, _, .cons _ t => by rw [List.length_cons, List.length_cons, t.len]
theorem DxAll.at {K : PySem.W.Frag} {H : Hp} : ∀ {xs : List V} {ds : List PyData}, DxAll K H xs ds → ∀ {i : Nat} {y : V}, xs[i]? = some y → ∃ d, ds[i]? = some d ∧ Dx K H y d
  | _, _, .nil, i, y, h => by simp at h
  | _, _, .cons r t, 0, y, h => by cases h; exact ⟨_, rfl, r⟩
  | _, _, .cons r t, i + 1, y, h => t.at (i := i) h
theorem DxAll.app {K : PySem.W.Frag} {H : Hp} : ∀ {xs ys : List V} {ds es : List PyData}, DxAll K H xs ds → DxAll K H ys es → DxAll K H (xs ++ ys) (ds ++ es)
  | _, _, _, _, .nil, h => h
  | _, _, _, _, .cons r t, h => .cons r (t.app h)
theorem depthKv_key (k : L2.Key) (d : PyData) (r : List (PyData × PyData)) : PyData.depthKv ((keyD k, d) :: r) = max d.depth (PyData.depthKv r) := by
  cases k <;> simp only [PyData.depthKv, keyD, PyData.depth, Nat.zero_max]
theorem kv_le_l {k v : Str} : k.length ≤ (k ++ ": " ++ v).length := by rw [strLen_append, strLen_append]; omega
theorem kv_le_r {k v : Str} : v.length ≤ (k ++ ": " ++ v).length := by rw [strLen_append, strLen_append]; omega
section
variable {X : Cx} {pins : List (Addr × Obj)} {σ : L2.St} {H : Hp} {s : Shared}
theorem flat_sees (I : Inv X pins σ H s) {u : Value} {d : PyData} {as : List Addr} (r : Reads s.heap u d as) (no : d.hasDict = false) (sh : d.showable = true) (sz : d.shown.length ≤ sizeLine) : ∃ as bs, Reads s.heap u d as ∧ ReadAtMost s.heap d.depth bs ∧ ReprK X.prog X.w bs s.heap d.depth u d.shown := by
  obtain ⟨bs, h1, h2⟩ := ReprK.of_reads (prog := X.prog) (w := X.w) (h₀ := s.heap) r sh (fun z => by rw [no] at z; cases z) sz
  exact ⟨_, bs, r, h1, h2⟩
theorem key_sees (I : Inv X pins σ H s) {k : L2.Key} {u : Value} (hk : L2.keyIs k u = true) (sh : (keyD k).showable = true) (sz : (keyD k).shown.length ≤ sizeLine) : ∃ as bs, Reads s.heap u (keyD k) as ∧ ReadAtMost s.heap (keyD k).depth bs ∧ ReprK X.prog X.w bs s.heap (keyD k).depth u (keyD k).shown := by
  rcases L2.keyIs_shape hk with ⟨i, t, rfl, rfl⟩ | ⟨x, t, rfl, rfl⟩
  · exact flat_sees I (Reads.int i t) rfl sh sz
  · exact flat_sees I (Reads.str x t) rfl sh sz
mutual
theorem Dx.sees (I : Inv X pins σ H s) : ∀ (d : PyData) (v : V) (u : Value), Dx X.K H v d → RelV v u → d.showable = true → d.shown.length ≤ sizeLine →
    ∃ as bs, Reads s.heap u d as ∧ ReadAtMost s.heap d.depth bs ∧ ReprK X.prog X.w bs s.heap d.depth u d.shown
  | .none, _, _, h, r, sh, sz => by
    cases h
    cases r
    exact flat_sees I Reads.none rfl sh sz
  | .bool b, _, _, h, r, sh, sz => by
    cases h
    cases r
    exact flat_sees I (Reads.bool b) rfl sh sz
  | .int i, _, _, h, r, sh, sz => by
    cases h
    obtain ⟨t, rfl⟩ := r
    exact flat_sees I (Reads.int i t) rfl sh sz
  | .str x, _, _, h, r, sh, sz => by
    cases h
    obtain ⟨t, rfl⟩ := r
    exact flat_sees I (Reads.str x t) rfl sh sz
  | .list ds, _, _, h, r, sh, sz => by
    cases h with
    | @lst a xs _ hs ha =>
      cases r
      obtain ⟨its, rv, ⟨o, n, ho, hc, _, hd⟩, _⟩ := I.list (SqL.of hs)
      have sz' : (listText (PyData.shownAll ds)).length ≤ sizeLine := by simpa only [PyData.shown] using sz
      obtain ⟨as, bs, hr, hb, hk⟩ := Dx.seesAll I ds _ its ha rv (by simpa [PyData.showable] using sh) fun t ht => Nat.le_trans (listText_mem_le ht) sz'
      have rd : Reads s.heap (.ref a) (.list ds) _ := .list ho hc hd hr
      have new : a ∉ bs := not_mem_of_deeper rd (by simp only [PyData.depth]; omega) hb
      refine ⟨_, a :: bs, rd, ReadAtMost.cons rd (by simp only [PyData.depth]; omega) hb, ?_⟩
      simp only [PyData.depth, PyData.shown]
      cases its with
      | nil =>
        cases hr
        simp only [PyData.shownAll, listText_nil]
        exact ReprK.listEmpty ho hc hd
      | cons x l => exact ReprK.list ho hc hd new (by simpa using hk.length_eq) fun i y e => hk.item i y (by simpa using e)
  | .tuple ds, _, _, h, r, sh, sz => by
    cases h with
    | @tup a xs _ hs ha =>
      cases r
      obtain ⟨its, rv, ⟨o, ho, hc, n, hd⟩, _⟩ := I.tuple (SqT.of hs)
      have sz' : (tupleText (PyData.shownAll ds)).length ≤ sizeLine := by simpa only [PyData.shown] using sz
      obtain ⟨as, bs, hr, hb, hk⟩ := Dx.seesAll I ds _ its ha rv (by simpa [PyData.showable] using sh) fun t ht => Nat.le_trans (tupleText_mem_le ht) sz'
      have rd : Reads s.heap (.ref a) (.tuple ds) _ := .tuple ho hc hd hr
      have new : a ∉ bs := not_mem_of_deeper rd (by simp only [PyData.depth]; omega) hb
      refine ⟨_, a :: bs, rd, ReadAtMost.cons rd (by simp only [PyData.depth]; omega) hb, ?_⟩
      simp only [PyData.depth, PyData.shown]
      exact ReprK.tuple ho hc hd new hk
  | .dict kvs, _, _, h, r, sh, sz => by
    cases h with
    | @dic a rows _ ha hr =>
      cases r
      obtain ⟨_, hne, vs, rv, o, es, ep, h1, h2, h3, _, h4, _⟩ := dk_of I.hok ha
      have sz' : (dictText (PyData.shownKv kvs)).length ≤ sizeLine := by simpa only [PyData.shown] using sz
      obtain ⟨as1, as2, bs, r1, r2, hb, k1, k2⟩ := Dx.seesKv I kvs rows vs es.toList hr rv h4 (by simpa [PyData.showable] using sh) fun t ht => Nat.le_trans (dictText_mem_le ht) sz'
      have rd : Reads s.heap (.ref a) (.dict kvs) _ := .dict h1 h2.1 h3 r1 r2
      have new : a ∉ bs := not_mem_of_deeper rd (by simp only [PyData.depth]; omega) hb
      refine ⟨_, a :: bs, rd, ReadAtMost.cons rd (by simp only [PyData.depth]; omega) hb, ?_⟩
      simp only [PyData.depth, PyData.shown, PyData.shownKv_eq]
      exact ReprK.dict h1 h2.1 h3 hne new (ReprEntriesK.of_two es.toList _ _ k1 k2)
theorem Dx.seesAll (I : Inv X pins σ H s) : ∀ (ds : List PyData) (vs : List V) (us : List Value), DxAll X.K H vs ds → Vals vs us → PyData.showableAll ds = true → (∀ t ∈ PyData.shownAll ds, t.length ≤ sizeLine) →
    ∃ as bs, ReadsAll s.heap us ds as ∧ ReadAtMost s.heap (PyData.depthAll ds) bs ∧ ReprAllK X.prog X.w bs s.heap (PyData.depthAll ds) us (PyData.shownAll ds)
  | [], _, _, h, r, _, _ => by
    cases h
    cases r
    refine ⟨_, [], ReadsAll.nil, ⟨fun b z => (by simp at z), ?_⟩⟩
    simp only [PyData.shownAll]
    exact .nil
  | d :: ds, _, _, h, r, sh, sz => by
    cases h with
    | cons h1 h2 =>
      cases r with
      | cons r1 r2 =>
        have sh' : d.showable = true ∧ PyData.showableAll ds = true := by simpa [PyData.showableAll] using sh
        obtain ⟨a1, b1, q1, m1, k1⟩ := Dx.sees I d _ _ h1 r1 sh'.1 (sz _ (by simp only [PyData.shownAll]; exact List.mem_cons_self))
        obtain ⟨a2, b2, q2, m2, k2⟩ := Dx.seesAll I ds _ _ h2 r2 sh'.2 fun t ht => sz t (by simp only [PyData.shownAll]; exact List.mem_cons_of_mem _ ht)
        refine ⟨_, b1 ++ b2, ReadsAll.cons q1 q2, fun b hb => ?_, ?_⟩
        · simp only [PyData.depthAll]
          rcases List.mem_append.mp hb with hb | hb
          · obtain ⟨d', a', r', y⟩ := m1 b hb
            exact ⟨d', a', r', by omega⟩
          · obtain ⟨d', a', r', y⟩ := m2 b hb
            exact ⟨d', a', r', by omega⟩
        · simp only [PyData.depthAll, PyData.shownAll]
          refine .cons ((k1.more fun b hb => List.mem_append.mpr (.inl hb)).level_le (by omega)) (k2.more_le (fun b hb => List.mem_append.mpr (.inr hb)) (by omega))
theorem Dx.seesKv (I : Inv X pins σ H s) : ∀ (kvs : List (PyData × PyData)) (rows : List (L2.Key × V)) (vs : List (L2.Key × Value)) (es : List DictEntry), DxKv X.K H rows kvs → KV rows vs → Pairs (mixKind X.prog X.w) es vs → PyData.showableKv kvs = true → (∀ t ∈ PyData.shownKv kvs, t.length ≤ sizeLine) →
    ∃ as1 as2 bs, ReadsAll s.heap (es.map (·.key)) (kvs.map (·.1)) as1 ∧ ReadsAll s.heap (es.map (·.val)) (kvs.map (·.2)) as2 ∧ ReadAtMost s.heap (PyData.depthKv kvs) bs ∧
      ReprAllK X.prog X.w bs s.heap (PyData.depthKv kvs) (es.map (·.key)) (PyData.shownAll (kvs.map (·.1))) ∧ ReprAllK X.prog X.w bs s.heap (PyData.depthKv kvs) (es.map (·.val)) (PyData.shownAll (kvs.map (·.2)))
  | [], _, _, _, h, r, p, _, _ => by
    cases h
    cases r
    cases p
    refine ⟨_, _, [], ReadsAll.nil, ReadsAll.nil, fun b z => (by simp at z), ?_, ?_⟩
    · simp only [List.map_nil, PyData.shownAll]
      exact .nil
    · simp only [List.map_nil, PyData.shownAll]
      exact .nil
  | (dk, d) :: kvs, _, _, _, h, r, p, sh, sz => by
    cases h with
    | @cons k v rows _ _ h1 h2 =>
      cases r with
      | @cons _ y _ ys r1 r2 =>
        cases p with
        | @cons e _ es _ p1 p2 p3 =>
          obtain ⟨yk, yv⟩ := y
          obtain ⟨e1, e2⟩ := r1
          have e1' : k = yk := e1
          subst e1'
          have e2' : RelV v e.val := by rw [p2]; exact e2
          have sh' : ((keyD k).showable = true ∧ d.showable = true) ∧ PyData.showableKv kvs = true := by simpa [PyData.showableKv] using sh
          have z0 := sz ((keyD k).shown ++ ": " ++ d.shown) (by simp only [PyData.shownKv]; exact List.mem_cons_self)
          obtain ⟨a0, b0, q0, m0, k0⟩ := key_sees I (k := k) (u := e.key) p1 sh'.1.1 (Nat.le_trans kv_le_l z0)
          obtain ⟨a1, b1, q1, m1, k1⟩ := Dx.sees I d _ _ h1 e2' sh'.1.2 (Nat.le_trans kv_le_r z0)
          obtain ⟨c1, c2, b2, q2, q3, m2, k2, k3⟩ := Dx.seesKv I kvs _ _ _ h2 r2 p3 sh'.2 fun t ht => sz t (by simp only [PyData.shownKv]; exact List.mem_cons_of_mem _ ht)
          refine ⟨_, _, b0 ++ (b1 ++ b2), ReadsAll.cons q0 q2, ReadsAll.cons q1 q3, fun b hb => ?_, ?_, ?_⟩
          · simp only [PyData.depthKv]
            rcases List.mem_append.mp hb with hb | hb
            · obtain ⟨d', a', r', y⟩ := m0 b hb
              exact ⟨d', a', r', by omega⟩
            · rcases List.mem_append.mp hb with hb | hb
              · obtain ⟨d', a', r', y⟩ := m1 b hb
                exact ⟨d', a', r', by omega⟩
              · obtain ⟨d', a', r', y⟩ := m2 b hb
                exact ⟨d', a', r', by omega⟩
          · simp only [PyData.depthKv, List.map_cons, PyData.shownAll]
            exact .cons ((k0.more fun b hb => List.mem_append.mpr (.inl hb)).level_le (by omega)) (k2.more_le (fun b hb => List.mem_append.mpr (.inr (List.mem_append.mpr (.inr hb)))) (by omega))
          · simp only [PyData.depthKv, List.map_cons, PyData.shownAll]
            exact .cons ((k1.more fun b hb => List.mem_append.mpr (.inr (List.mem_append.mpr (.inl hb)))).level_le (by omega)) (k3.more_le (fun b hb => List.mem_append.mpr (.inr (List.mem_append.mpr (.inr hb)))) (by omega))
end
/-- repr of data of any kind, dicts within -/
def rReprX (K : PySem.W.Frag) : List V → Hp → VK → Prop := fun xs H Q => ∃ (x : V) (d : PyData), xs = [x] ∧ Dx K H x d ∧ d.showable = true ∧ d.depth ≤ 60 ∧ d.shown.length ≤ sizeLine ∧ Q (.str d.shown) H
theorem call_reprX (hg : X.A.guards = some []) (hu : X.A.units + 64 < cLine) : CallR X (.builtin "repr") (rReprX X.K) := by
  intro pins s σ H xs us Q I r h
  obtain ⟨x, d, rfl, hd, sh, dp, sz, q⟩ := h
  cases hd with
  | int i => exact call_reprA hg hu pins s σ H _ us Q I r ⟨_, _, rfl, .int i, sh, dp, sz, q⟩
  | non => exact call_reprA hg hu pins s σ H _ us Q I r ⟨_, _, rfl, .non, sh, dp, sz, q⟩
  | bl b => exact call_reprA hg hu pins s σ H _ us Q I r ⟨_, _, rfl, .bl b, sh, dp, sz, q⟩
  | str z => exact call_reprA hg hu pins s σ H _ us Q I r ⟨_, _, rfl, .str z, sh, dp, sz, q⟩
  | @lst a xs ds hs hd =>
    have dp' : PyData.depthAll ds + 1 ≤ 60 := by simpa only [PyData.depth] using dp
    obtain ⟨u, rfl, ru⟩ := vals1 r
    cases (show u = Value.ref a from ru)
    obtain ⟨its, rv, ⟨o, n, ho, hc, _, hdd⟩, _⟩ := I.list (SqL.of hs)
    have sz' : (listText (PyData.shownAll ds)).length ≤ sizeLine := by simpa only [PyData.shown] using sz
    obtain ⟨as, bs, hr, hb, hk⟩ := Dx.seesAll I ds xs its hd rv (by simpa only [PyData.showable] using sh) fun t ht => Nat.le_trans (listText_mem_le ht) sz'
    have rd : Reads s.heap (.ref a) (.list ds) _ := .list ho hc hdd hr
    have new : a ∉ bs := not_mem_of_deeper rd (by simp only [PyData.depth]; omega) hb
    refine call_repr_slot (T := "list") (by omega) ⟨o, ho, hc⟩ PySem.F.slot_list_repr.toG ?_
    cases its with
    | nil =>
      cases hr
      have e0 : (PyData.list []).shown = ("[]" : Str) := by simp only [PyData.shown, PyData.shownAll, listText_nil]
      refine call_list_repr_empty ⟨o, ho, hc⟩ ho hdd ⟨_, _, rfl, .str (PyData.list []).shown, H, ?_, ⟨_, by rw [e0]⟩, q⟩
      exact I.kept (t' := _) fun _ _ y => y
    | cons y l =>
      refine call_list_reprK ho hc hdd new (by simpa using hk.length_eq) (fun i y e => hk.item i y (by simpa using e)) hg (fun b _ => Clear.nil b) (by show X.A.units + 1 + (PyData.depthAll ds + 1) < cLine; omega) (fun _ _ e => e) (fun h' u tk keep => ?_) sz'
      refine ⟨_, _, rfl, .str (PyData.list ds).shown, H, I.kept keep, ⟨u, ?_⟩, q⟩
      simp only [PyData.shown]
  | @tup a xs ds hs hd =>
    have dp' : PyData.depthAll ds + 1 ≤ 60 := by simpa only [PyData.depth] using dp
    obtain ⟨u, rfl, ru⟩ := vals1 r
    cases (show u = Value.ref a from ru)
    obtain ⟨its, rv, ⟨o, ho, hc, n, hdd⟩, _⟩ := I.tuple (SqT.of hs)
    have sz' : (tupleText (PyData.shownAll ds)).length ≤ sizeLine := by simpa only [PyData.shown] using sz
    obtain ⟨as, bs, hr, hb, hk⟩ := Dx.seesAll I ds xs its hd rv (by simpa only [PyData.showable] using sh) fun t ht => Nat.le_trans (tupleText_mem_le ht) sz'
    have rd : Reads s.heap (.ref a) (.tuple ds) _ := .tuple ho hc hdd hr
    have new : a ∉ bs := not_mem_of_deeper rd (by simp only [PyData.depth]; omega) hb
    refine call_repr_slot (T := "tuple") (by omega) ⟨o, ho, hc⟩ PySem.F.slot_tuple_repr (call_tuple_reprK ho hc hdd new hk hg (fun b _ => Clear.nil b) (by show X.A.units + 1 + (PyData.depthAll ds + 1) < cLine; omega) (fun _ _ e => e) (fun h' u tk keep => ?_) sz')
    refine ⟨_, _, rfl, .str (PyData.tuple ds).shown, H, I.kept keep, ⟨u, ?_⟩, q⟩
    simp only [PyData.shown]
  | @dic a rows kvs hs hd =>
    have dp' : PyData.depthKv kvs + 1 ≤ 60 := by simpa only [PyData.depth] using dp
    obtain ⟨u, rfl, ru⟩ := vals1 r
    cases (show u = Value.ref a from ru)
    obtain ⟨_, hne, vs, rv, o, es, ep, h1, h2, h3, _, h4, _⟩ := dk_of I.hok hs
    have sz' : (dictText (PyData.shownKv kvs)).length ≤ sizeLine := by simpa only [PyData.shown] using sz
    obtain ⟨as1, as2, bs, r1, r2, hb, k1, k2⟩ := Dx.seesKv I kvs rows vs es.toList hd rv h4 (by simpa [PyData.showable] using sh) fun t ht => Nat.le_trans (dictText_mem_le ht) sz'
    have rd : Reads s.heap (.ref a) (.dict kvs) _ := .dict h1 h2.1 h3 r1 r2
    have new : a ∉ bs := not_mem_of_deeper rd (by simp only [PyData.depth]; omega) hb
    have e1 := ReprEntriesK.of_two es.toList _ _ k1 k2
    rw [← PyData.shownKv_eq] at e1
    refine call_repr_slot (T := "dict") (by omega) ⟨o, h1, h2.1⟩ PySem.F.slot_dict_repr (call_dict_reprK h1 h2.1 h3 hne new e1 hg (fun b _ => Clear.nil b) (by show X.A.units + 1 + (PyData.depthKv kvs + 1) < cLine; omega) (fun _ _ e => e) (fun h' u tk keep => ?_) sz')
    refine ⟨_, _, rfl, .str (PyData.dict kvs).shown, H, I.kept keep, ⟨u, ?_⟩, q⟩
    simp only [PyData.shown]
end
end Af

set_option Elab.async false
set_option linter.all false
set_option maxRecDepth 100000
set_option maxHeartbeats 4000000
namespace Af
open PySem PySem.Spec PyProof.Rows L2
theorem _root_.L2.Room.u1 {k : Nat} {A : Around} (r : L2.Room k A) : A.units + 1 < cLine := by have := r.units; omega
/-! patterns: dicts of cells and ascending worths; patterns among data -/
section
variable {K : PySem.W.Frag} {H : Hp}
theorem dx_ty {x : V} {d : PyData} (h : Dx K H x d) : ∃ n, Ty K H x n := by
  cases h with
  | non => exact ⟨_, .non, by decide, fun _ _ _ e => by cases e⟩
  | bl b => exact ⟨_, .bl b, by decide, fun _ _ _ e => by cases e⟩
  | int i => exact ⟨_, .int i, by decide, fun _ _ _ e => by cases e⟩
  | str z => exact ⟨_, .str z, by decide, fun _ _ _ e => by cases e⟩
  | lst e t => exact ⟨_, .lst e, by decide, fun b o u z q => by cases z; rw [e] at q; cases q⟩
  | tup e t => exact ⟨_, .tup e, by decide, fun b o u z q => by cases z; rw [e] at q; cases q⟩
  | dic e t => exact ⟨_, .dK e, by decide, fun b o u z q => by cases z; rw [e] at q; cases q⟩
theorem dx_idx {x : V} {d : PyData} (h : Dx K H x d) (m : Int) : idxB m x = idxD m d := by
  cases h <;> rfl
theorem dx_all {m : Int} : ∀ {xs : List V} {ds : List PyData}, DxAll K H xs ds → xs.all (idxB m) = ds.all (idxD m)
  | _, _, .nil => rfl
  | _, _, .cons r t => by rw [List.all_cons, List.all_cons, dx_idx r, dx_all t]
theorem dx_empty : ∀ {xs : List V} {ds : List PyData}, DxAll K H xs ds → xs.isEmpty = ds.isEmpty
  | _, _, .nil => rfl
  | _, _, .cons _ _ => rfl
theorem dx_worths {x : V} {d : PyData} (h : Dx K H x d) : worthsB H x = worthsD d := by
  cases h with
  | lst e t => simp only [worthsB, e, worthsD]
  | tup e t => simp only [worthsB, e, worthsD]; rw [dx_empty t, dx_all t]
  | dic e t => simp only [worthsB, e, worthsD]
  | _ => rfl
theorem DxAll.mem : ∀ {xs : List V} {ds : List PyData}, DxAll K H xs ds → ∀ {y : V}, y ∈ xs → ∃ d ∈ ds, Dx K H y d
  | _, _, .nil, y, h => by cases h
  | _, _, .cons r t, y, h => by
    rcases List.mem_cons.mp h with rfl | h
    · exact ⟨_, List.mem_cons_self, r⟩
    · obtain ⟨d, h1, h2⟩ := t.mem h
      exact ⟨d, List.mem_cons_of_mem _ h1, h2⟩
/-- lists and tuples at the top are not long -/
def WdD (d : PyData) : Prop := ∀ ds, d = .tuple ds ∨ d = .list ds → ds.length ≤ 1000
theorem dx_th1 {x : V} {d : PyData} (h : Dx K H x d) (w : WdD d) : Th K H 1 x := by
  refine ⟨dx_ty h, fun a xs e z => ?_⟩
  subst e
  cases h with
  | @lst _ ys ds e t =>
    have l := w ds (.inr rfl)
    rcases z with z | z
    · rw [e] at z; cases z
    · rw [e] at z; cases z; exact ⟨by rw [t.len]; omega, fun y hy => by obtain ⟨d, _, q⟩ := t.mem hy; exact dx_ty q⟩
  | @tup _ ys ds e t =>
    have l := w ds (.inl rfl)
    rcases z with z | z
    · rw [e] at z; cases z; exact ⟨by rw [t.len]; omega, fun y hy => by obtain ⟨d, _, q⟩ := t.mem hy; exact dx_ty q⟩
    · rw [e] at z; cases z
  | dic e t => rcases z with z | z <;> (rw [e] at z; cases z)
end
/-! ascending worths -/
def ascB : List Int → Bool
  | a :: b :: r => decide (a < b) && ascB (b :: r)
  | _ => true
def stI (ws : List Int) (i : Nat) : Bool := decide (ws.getD i 0 < ws.getD (i + 1) 0)
theorem asc_range : ∀ ws : List Int, (List.range (ws.length - 1)).all (stI ws) = ascB ws
  | [] => rfl
  | [_] => rfl
  | a :: b :: r => by
    have ih := asc_range (b :: r)
    show (List.range (r.length + 1)).all (stI (a :: b :: r)) = (decide (a < b) && ascB (b :: r))
    rw [← ih, List.range_succ_eq_map, List.all_cons, List.all_map]
    rfl
theorem asc_iff : ∀ {ws : List Int}, ascB ws = true ↔ ws.Pairwise (· < ·)
  | [] => ⟨fun _ => .nil, fun _ => rfl⟩
  | [_] => ⟨fun _ => List.pairwise_singleton _ _, fun _ => rfl⟩
  | a :: b :: r => by
    have ih := asc_iff (ws := b :: r)
    show (decide (a < b) && ascB (b :: r)) = true ↔ _
    rw [Bool.and_eq_true, decide_eq_true_iff, ih]
    constructor
    · rintro ⟨h1, h2⟩
      refine List.pairwise_cons.mpr ⟨fun z hz => ?_, h2⟩
      rcases List.mem_cons.mp hz with rfl | hz
      · exact h1
      · have := (List.pairwise_cons.mp h2).1 z hz
        omega
    · intro h
      obtain ⟨h1, h2⟩ := List.pairwise_cons.mp h
      exact ⟨h1 b List.mem_cons_self, h2⟩
/-! patterns of any data -/
def intD : PyData → Int
  | .int i => i
  | _ => 0
def intsD : PyData → List Int
  | .tuple ds => ds.map intD
  | _ => []
def letD (d : PyData) : Bool := worthsD d && ascB (intsD d)
def patB (n : Int) : PyData → Bool
  | .dict kvs => kvs.all fun p => idxD n p.1 && letD p.2
  | _ => false
/-- a dict whose values are not long -/
def SzP (d : PyData) : Prop := ∀ kvs, d = .dict kvs → kvs.length ≤ 1000 ∧ (kvs.map (·.1)).Nodup ∧ ∀ p ∈ kvs, WdD p.2
section
variable {K : PySem.W.Frag} {H : Hp}
theorem idx_int {m : Int} {x : V} (h : idxB m x = true) : ∃ i, x = .int i ∧ 0 ≤ i ∧ i < m := by
  cases x with
  | int i =>
    have h : (decide (0 ≤ i) && decide (i < m)) = true := h
    rw [Bool.and_eq_true, decide_eq_true_iff, decide_eq_true_iff] at h
    exact ⟨i, rfl, h.1, h.2⟩
  | _ => cases h
theorem dx_int {m : Int} {x : V} {d : PyData} (q : Dx K H x d) (h : idxD m d = true) : x = .int (intD d) ∧ 0 ≤ intD d ∧ intD d < m := by
  rw [← dx_idx q] at h
  obtain ⟨i, rfl, a, b⟩ := idx_int h
  cases q
  exact ⟨rfl, a, b⟩
theorem dx_ints {m : Int} : ∀ {xs : List V} {ds : List PyData}, DxAll K H xs ds → ds.all (idxD m) = true → xs = ivs (ds.map intD) ∧ ∀ z ∈ ds.map intD, 0 ≤ z ∧ z < m
  | _, _, .nil, _ => ⟨rfl, fun z h => by cases h⟩
  | _, _, .cons r t, h => by
    rw [List.all_cons, Bool.and_eq_true] at h
    obtain ⟨e1, e2, e3⟩ := dx_int r h.1
    obtain ⟨a, b⟩ := dx_ints t h.2
    refine ⟨?_, fun z hz => ?_⟩
    · rw [e1, a]
      rfl
    · rcases List.mem_cons.mp hz with rfl | hz
      · exact ⟨e2, e3⟩
      · exact b z hz
/-- worths among data -/
theorem dx_let {x : V} {d : PyData} (q : Dx K H x d) (h : worthsD d = true) : ∃ a, x = .ref a ∧ H a = some (.tup (ivs (intsD d))) ∧ intsD d ≠ [] ∧ ∀ z ∈ intsD d, 0 ≤ z ∧ z < 8 := by
  cases q with
  | @tup a xs ds e t =>
    have h : (!ds.isEmpty && ds.all (idxD 8)) = true := h
    rw [Bool.and_eq_true] at h
    obtain ⟨e1, b⟩ := dx_ints t h.2
    refine ⟨a, rfl, by rw [e, e1]; rfl, fun z => ?_, b⟩
    cases ds with
    | nil => cases h.1
    | cons _ _ => cases z
  | _ => cases h
theorem dx_dict_or {x : V} {d : PyData} (h : Dx K H x d) : (∃ a rows kvs, x = .ref a ∧ H a = some (.dK rows) ∧ d = .dict kvs ∧ DxKv K H rows kvs) ∨ (∃ n, Ty K H x n ∧ isB n "dict" = false ∧ ∀ kvs, d ≠ .dict kvs) := by
  cases h with
  | non => exact .inr ⟨_, ⟨.non, by decide, fun _ _ _ e => by cases e⟩, by decide, fun _ e => by cases e⟩
  | bl b => exact .inr ⟨_, ⟨.bl b, by decide, fun _ _ _ e => by cases e⟩, by decide, fun _ e => by cases e⟩
  | int i => exact .inr ⟨_, ⟨.int i, by decide, fun _ _ _ e => by cases e⟩, by decide, fun _ e => by cases e⟩
  | str z => exact .inr ⟨_, ⟨.str z, by decide, fun _ _ _ e => by cases e⟩, by decide, fun _ e => by cases e⟩
  | lst e t => exact .inr ⟨_, ⟨.lst e, by decide, fun b o u z q => by cases z; rw [e] at q; cases q⟩, by decide, fun _ e => by cases e⟩
  | tup e t => exact .inr ⟨_, ⟨.tup e, by decide, fun b o u z q => by cases z; rw [e] at q; cases q⟩, by decide, fun _ e => by cases e⟩
  | dic e t => exact .inl ⟨_, _, _, rfl, e, rfl, t⟩
theorem ty_d {a : Addr} {rows : List (L2.Key × V)} (h : H a = some (.dK rows)) : Ty K H (.ref a) "dict" := ⟨.dK h, by decide, fun b o u e z => by cases e; rw [h] at z; cases z⟩
theorem isB_dd : isB "dict" "dict" = true := by decide
theorem DxKv.at : ∀ {rows : List (L2.Key × V)} {kvs : List (PyData × PyData)}, DxKv K H rows kvs → ∀ {i : Nat} {k : L2.Key} {v : V}, rows[i]? = some (k, v) → ∃ d, kvs[i]? = some (keyD k, d) ∧ Dx K H v d
  | _, _, .nil, i, k, v, h => by simp at h
  | _, _, .cons r t, 0, k, v, h => by cases h; exact ⟨_, rfl, r⟩
  | _, _, .cons r t, i + 1, k, v, h => t.at (i := i) h
theorem DxKv.keys : ∀ {rows : List (L2.Key × V)} {kvs : List (PyData × PyData)}, DxKv K H rows kvs → kvs.map (·.1) = (rows.map (·.1)).map keyD
  | _, _, .nil => rfl
  | _, _, .cons _ t => by rw [List.map_cons, List.map_cons, List.map_cons, t.keys]
theorem DxKv.nd {rows : List (L2.Key × V)} {kvs : List (PyData × PyData)} (h : DxKv K H rows kvs) (n : (kvs.map (·.1)).Nodup) : (rows.map (·.1)).Nodup := by
  rw [h.keys] at n
  exact (List.pairwise_map.mp n).imp fun {a b} z e => z (by rw [e])
theorem key_idx (k : L2.Key) (m : Int) : idxB m (kV k) = idxD m (keyD k) := by cases k <;> rfl
theorem key_ty (k : L2.Key) : ∃ n, Ty K H (kV k) n := by
  cases k with
  | inl i => exact ⟨_, .int i, by decide, fun _ _ _ e => by cases e⟩
  | inr x => exact ⟨_, .str x, by decide, fun _ _ _ e => by cases e⟩
theorem valV_at : ∀ {rows : List (L2.Key × V)} {i : Nat} {k : L2.Key} {v : V}, (rows.map (·.1)).Nodup → rows[i]? = some (k, v) → valV rows k = some v
  | [], i, k, v, _, h => by simp at h
  | p :: r, 0, k, v, _, h => by
    cases h
    exact valV_pos rfl
  | p :: r, i + 1, k, v, n, h => by
    rw [List.map_cons] at n
    obtain ⟨n1, n2⟩ := List.nodup_cons.mp n
    have hm : k ∈ r.map (·.1) := by
      have := List.mem_of_getElem? (l := r) (i := i) (by simpa using h)
      exact List.mem_map.mpr ⟨_, this, rfl⟩
    rw [valV_neg (fun e => n1 (by rw [e]; exact hm))]
    exact valV_at n2 (by simpa using h)
end
/-! locked while it is walked -/
theorem lock_same {H H' : Hp} {d : Addr} {u : HO} {od : Obj} (h : H d = some u) (s : Same (upd H d (.frz od u)) H') : Same H (upd H' d u) := fun a o e => by
  by_cases c : a = d
  · subst c
    rw [upd_same]
    rw [h] at e
    exact e
  · rw [upd_ne c]
    exact s a o (by rw [upd_ne c]; exact e)
theorem lock_at {H H' : Hp} {d : Addr} {u : HO} {od : Obj} (s : Same (upd H d (.frz od u)) H') : H' d = some (.frz od u) := s _ _ upd_same
theorem lock_get {H : Hp} {d a : Addr} {u o : HO} {od : Obj} (h : H d = some u) (e : H a = some o) (n : o ≠ u) : upd H d (.frz od u) a = some o := by
  rw [upd_ne (fun z => n (by rw [z, h] at e; exact (Option.some.inj e).symm))]
  exact e
/-- the heap without the locked dict -/
theorem lock_hd {H : Hp} {d : Addr} {x : HO} : Same (hd d H) (upd H d x) := fun a o e => by
  by_cases c : a = d
  · rw [c, show hd d H d = none from if_pos rfl] at e
    cases e
  · rw [hd_ne c] at e
    rw [upd_ne c]
    exact e
mutual
theorem Dx.fn {K : PySem.W.Frag} {H : Hp} : ∀ {v : V} {d : PyData}, Dx K H v d → ∀ {d' : PyData}, Dx K H v d' → d = d'
  | _, _, .non, _, h => by cases h; rfl
  | _, _, .bl b, _, h => by cases h; rfl
  | _, _, .int i, _, h => by cases h; rfl
  | _, _, .str x, _, h => by cases h; rfl
  | _, _, .lst e t, _, h => by
    cases h with
    | lst e' t' => rw [e] at e'; cases e'; rw [DxAll.fn t t']
    | tup e' t' => rw [e] at e'; cases e'
    | dic e' t' => rw [e] at e'; cases e'
  | _, _, .tup e t, _, h => by
    cases h with
    | lst e' t' => rw [e] at e'; cases e'
    | tup e' t' => rw [e] at e'; cases e'; rw [DxAll.fn t t']
    | dic e' t' => rw [e] at e'; cases e'
  | _, _, .dic e t, _, h => by
    cases h with
    | lst e' t' => rw [e] at e'; cases e'
    | tup e' t' => rw [e] at e'; cases e'
    | dic e' t' => rw [e] at e'; cases e'; rw [DxKv.fn t t']
theorem DxAll.fn {K : PySem.W.Frag} {H : Hp} : ∀ {v : List V} {d : List PyData}, DxAll K H v d → ∀ {d' : List PyData}, DxAll K H v d' → d = d'
  | _, _, .nil, _, h => by cases h; rfl
  | _, _, .cons r t, _, h => by
    cases h with
    | cons r' t' => rw [Dx.fn r r', DxAll.fn t t']
theorem DxKv.fn {K : PySem.W.Frag} {H : Hp} : ∀ {v : List (L2.Key × V)} {d : List (PyData × PyData)}, DxKv K H v d → ∀ {d' : List (PyData × PyData)}, DxKv K H v d' → d = d'
  | _, _, .nil, _, h => by cases h; rfl
  | _, _, .cons r t, _, h => by
    cases h with
    | cons r' t' => rw [Dx.fn r r', DxKv.fn t t']
end
/-- what is less deep than what stands at a is told without a -/
theorem dp_l {ds : List PyData} : (PyData.list ds).depth = PyData.depthAll ds + 1 := by simp only [PyData.depth]
theorem dp_t {ds : List PyData} : (PyData.tuple ds).depth = PyData.depthAll ds + 1 := by simp only [PyData.depth]
theorem dp_d {kvs : List (PyData × PyData)} : (PyData.dict kvs).depth = PyData.depthKv kvs + 1 := by simp only [PyData.depth]
mutual
theorem Dx.off {K : PySem.W.Frag} {H : Hp} {a : Addr} {D : PyData} (h : Dx K H (.ref a) D) : ∀ {v : V} {d : PyData}, Dx K H v d → d.depth < D.depth → Dx K (hd a H) v d
  | _, _, .non, _ => .non
  | _, _, .bl b, _ => .bl b
  | _, _, .int i, _ => .int i
  | _, _, .str x, _ => .str x
  | _, _, .lst (a := b) e t, l => by
    have ne : b ≠ a := fun z => by
      subst z
      rw [Dx.fn h (.lst e t)] at l
      omega
    exact .lst ((hd_ne ne).trans e) (DxAll.off h t (by rw [dp_l] at l; omega))
  | _, _, .tup (a := b) e t, l => by
    have ne : b ≠ a := fun z => by
      subst z
      rw [Dx.fn h (.tup e t)] at l
      omega
    exact .tup ((hd_ne ne).trans e) (DxAll.off h t (by rw [dp_t] at l; omega))
  | _, _, .dic (a := b) e t, l => by
    have ne : b ≠ a := fun z => by
      subst z
      rw [Dx.fn h (.dic e t)] at l
      omega
    exact .dic ((hd_ne ne).trans e) (DxKv.off h t (by rw [dp_d] at l; omega))
theorem DxAll.off {K : PySem.W.Frag} {H : Hp} {a : Addr} {D : PyData} (h : Dx K H (.ref a) D) : ∀ {v : List V} {d : List PyData}, DxAll K H v d → PyData.depthAll d < D.depth → DxAll K (hd a H) v d
  | _, _, .nil, _ => .nil
  | _, _, .cons r t, l => .cons (Dx.off h r (by simp only [PyData.depthAll] at l; omega)) (DxAll.off h t (by simp only [PyData.depthAll] at l; omega))
theorem DxKv.off {K : PySem.W.Frag} {H : Hp} {a : Addr} {D : PyData} (h : Dx K H (.ref a) D) : ∀ {v : List (L2.Key × V)} {d : List (PyData × PyData)}, DxKv K H v d → PyData.depthKv d < D.depth → DxKv K (hd a H) v d
  | _, _, .nil, _ => .nil
  | _, _, .cons r t, l => .cons (Dx.off h r (by simp only [PyData.depthKv] at l; omega)) (DxKv.off h t (by simp only [PyData.depthKv] at l; omega))
end
/-- the values of a dict, told while it is locked -/
theorem DxKv.lock {K : PySem.W.Frag} {H : Hp} {a : Addr} {rows : List (L2.Key × V)} {kvs : List (PyData × PyData)} {x : HO} (e : H a = some (.dK rows)) (t : DxKv K H rows kvs) : DxKv K (upd H a x) rows kvs :=
  DxKv.same lock_hd (DxKv.off (.dic e t) t (by rw [dp_d]; omega))
/-! patterns that are right -/
abbrev Ptn := List (Nat × List Int)
def RowV (H : Hp) (r : L2.Key × V) (p : Nat × List Int) : Prop := r.1 = .inl ((p.1 : Nat) : Int) ∧ ∃ t, r.2 = .ref t ∧ H t = some (.tup (ivs p.2))
structure PatV (H : Hp) (a : Addr) (ps : Ptn) : Prop where
  ex : ∃ rows, H a = some (.dK rows) ∧ Paired (RowV H) rows ps
theorem rows_kp {p : Addr} {H H' : Hp} {rows : List (L2.Key × V)} {ps : Ptn} (k : Kp p H H') (h : Paired (RowV H) rows ps) : Paired (RowV H') rows ps := L2.Paired.mapP h fun _ _ ⟨e, t, e2, z⟩ => ⟨e, t, e2, k.tup z⟩
theorem rows_same {H H' : Hp} {rows : List (L2.Key × V)} {ps : Ptn} (s : Same H H') (h : Paired (RowV H) rows ps) : Paired (RowV H') rows ps := rows_kp (p := 0) (Kp.same s) h
theorem PatV.kp {p a : Addr} {H H' : Hp} {ps : Ptn} (h : PatV H a ps) (k : Kp p H H') : PatV H' a ps := by
  obtain ⟨rows, h1, h2⟩ := h.ex
  exact ⟨rows, k _ _ (.inr fun l e => by cases e) h1, rows_kp k h2⟩
theorem PatV.same {a : Addr} {H H' : Hp} {ps : Ptn} (h : PatV H a ps) (s : Same H H') : PatV H' a ps := h.kp (p := 0) (Kp.same s)
structure OkPt (n : Nat) (ps : Ptn) : Prop where
  nd : (ps.map (·.1)).Nodup
  kb : ∀ p ∈ ps, p.1 < n
  ne : ∀ p ∈ ps, p.2 ≠ []
  asc : ∀ p ∈ ps, p.2.Pairwise (· < ·)
  rg : ∀ p ∈ ps, ∀ z ∈ p.2, 0 ≤ z ∧ z < 8
def patD (ps : Ptn) : PyData := .dict (ps.map fun p => (.int ((p.1 : Nat) : Int), .tuple (dvs p.2)))
theorem dx_pat {K : PySem.W.Frag} {H : Hp} {a : Addr} {ps : Ptn} (h : PatV H a ps) : Dx K H (.ref a) (patD ps) := by
  obtain ⟨rows, h1, h2⟩ := h.ex
  refine .dic h1 ?_
  clear h1 h
  induction h2 with
  | nil => exact .nil
  | @cons r p rs ps hr t ih =>
    obtain ⟨k, v⟩ := r
    obtain ⟨e1, t, e2, e3⟩ := hr
    have e1' : k = .inl ((p.1 : Nat) : Int) := e1
    have e2' : v = .ref t := e2
    subst e1' e2'
    exact .cons (k := .inl ((p.1 : Nat) : Int)) (Dx.of (.tup e3 (dq_ints p.2))) ih
theorem sub_lenI : ∀ {l1 l2 : List Int}, l1.Nodup → (∀ x ∈ l1, x ∈ l2) → l1.length ≤ l2.length
  | [], _, _, _ => Nat.zero_le _
  | x :: l1, l2, n, s => by
    obtain ⟨n1, n2⟩ := List.nodup_cons.mp n
    have h := sub_lenI (l2 := l2.erase x) n2 fun y hy => (List.mem_erase_of_ne (fun (e : y = x) => n1 (by rw [← e]; exact hy))).mpr (s y (List.mem_cons_of_mem _ hy))
    have hx := s x List.mem_cons_self
    rw [List.length_erase_of_mem hx] at h
    have := List.length_pos_of_mem hx
    rw [List.length_cons]
    omega
theorem asc_len {ws : List Int} (h : ws.Pairwise (· < ·)) (b : ∀ z ∈ ws, 0 ≤ z ∧ z < 8) : ws.length ≤ 8 := by
  have nd : ws.Nodup := h.imp fun {a b} z => by omega
  have : ws.length ≤ ([0, 1, 2, 3, 4, 5, 6, 7] : List Int).length := sub_lenI nd fun z hz => by
    have := b z hz
    simp only [List.mem_cons, List.not_mem_nil, or_false]
    omega
  exact this
theorem pat_sz {n : Nat} {ps : Ptn} (o : OkPt n ps) (hl : ps.length ≤ 1000) : SzP (patD ps) := fun kvs e => by
  cases e
  refine ⟨by rw [List.length_map]; exact hl, ?_, fun p hp => ?_⟩
  · rw [List.map_map]
    exact List.pairwise_map.mpr ((List.pairwise_map.mp o.nd).imp fun {a b} z e => z (by injection e; omega))
  · obtain ⟨q, hq, rfl⟩ := List.mem_map.mp hp
    intro ds e
    have := asc_len (o.asc q hq) (o.rg q hq)
    rcases e with e | e
    · cases e
      unfold dvs
      rw [List.length_map]
      omega
    · cases e
theorem pat_ok {n : Nat} {ps : Ptn} (o : OkPt n ps) : patB n (patD ps) = true := by
  show (ps.map fun p => (PyData.int ((p.1 : Nat) : Int), PyData.tuple (dvs p.2))).all _ = true
  rw [List.all_map, List.all_eq_true]
  intro p hp
  show (idxD n (.int ((p.1 : Nat) : Int)) && letD (.tuple (dvs p.2))) = true
  have kb := o.kb p hp
  have e1 : idxD (n : Int) (.int ((p.1 : Nat) : Int)) = true := by
    show (decide ((0 : Int) ≤ (p.1 : Int)) && decide ((p.1 : Int) < (n : Int))) = true
    rw [decide_eq_true (by omega), decide_eq_true (by omega)]
    rfl
  have rg := o.rg p hp
  have e2 : worthsD (.tuple (dvs p.2)) = true := by
    show (!(dvs p.2).isEmpty && (dvs p.2).all (idxD 8)) = true
    rw [Bool.and_eq_true, List.all_eq_true]
    refine ⟨?_, fun d hd => ?_⟩
    · have := o.ne p hp
      cases q : p.2 with
      | nil => exact absurd q this
      | cons _ _ => rfl
    · obtain ⟨z, hz, rfl⟩ := dvs_mem hd
      have := rg z hz
      show (decide (0 ≤ z) && decide (z < 8)) = true
      rw [decide_eq_true (by omega), decide_eq_true (by omega)]
      rfl
  have e3 : intsD (.tuple (dvs p.2)) = p.2 := by
    show (p.2.map PyData.int).map intD = p.2
    rw [List.map_map]
    exact List.map_id _
  unfold letD
  rw [e1, e2, e3, asc_iff.mpr (o.asc p hp)]
  rfl
/-- a content agrees with a pattern -/
def agB (ps : Ptn) (c : List Int) : Bool := ps.all fun p => p.2.contains (c.getD p.1 0)
/-! the texts of dicts -/
theorem Bd.dic {b n k : Nat} {kvs : List (PyData × PyData)} (h : ∀ p ∈ kvs, flatD p.1 = true ∧ Bd b n p.2) (hl : kvs.length ≤ k) : Bd (k * (b + 49) + 3) (n + 2) (.dict kvs) := by
  have tx : ((PyData.shownKv kvs).map (·.length)).sum ≤ (b + 47) * kvs.length ∧ (PyData.shownKv kvs).length = kvs.length ∧ PyData.showableKv kvs = true ∧ PyData.depthKv kvs ≤ n + 1 := by
    clear hl
    induction kvs with
    | nil => exact ⟨Nat.zero_le _, rfl, rfl, Nat.zero_le _⟩
    | cons p r ih =>
      obtain ⟨k, v⟩ := p
      obtain ⟨i1, i2, i3, i4⟩ := ih fun q hq => h q (List.mem_cons_of_mem _ hq)
      obtain ⟨f, hv⟩ := h (k, v) List.mem_cons_self
      obtain ⟨k1, k2, k3⟩ := flat_len f
      have v1 := hv.tx
      have v3 := hv.dp
      refine ⟨?_, ?_, ?_, ?_⟩
      · simp only [PyData.shownKv, List.map_cons, List.sum_cons, List.length_cons, Nat.mul_succ]
        have e : (k.shown ++ ": " ++ v.shown).length = k.shown.length + 2 + v.shown.length := by
          rw [strLen_append, strLen_append]
          rfl
        rw [e]
        dsimp only at k1 v1
        omega
      · simp only [PyData.shownKv, List.length_cons, i2]
      · simp only [PyData.showableKv, i3, Bool.and_true, Bool.and_eq_true]
        exact ⟨k2, hv.sh⟩
      · simp only [PyData.depthKv]
        dsimp only at v3 k3
        omega
  obtain ⟨t1, t2, t3, t4⟩ := tx
  have e : kvs.length * (b + 49) ≤ k * (b + 49) := Nat.mul_le_mul_right _ hl
  have e2 : kvs.length * (b + 49) = (b + 47) * kvs.length + 2 * kvs.length := by rw [Nat.mul_comm, ← Nat.add_mul]
  refine ⟨?_, ?_, ?_⟩
  · simp only [PyData.shown]
    have := dictText_len_le (PyData.shownKv kvs)
    rw [t2] at this
    omega
  · simp only [PyData.showable]
    exact t3
  · simp only [PyData.depth]
    omega
theorem bd_pat {n : Nat} {ps : Ptn} (o : OkPt n ps) (hn : n ≤ 24) (hl : ps.length ≤ 24) : Bd 31000 4 (patD ps) := by
  refine (Bd.dic (b := 1200) (n := 2) (k := 24) (fun p hp => ?_) (by rw [List.length_map]; exact hl)).mono (by decide) (by decide)
  obtain ⟨q, hq, rfl⟩ := List.mem_map.mp hp
  have kb := o.kb q hq
  exact ⟨flat_place ⟨by omega, by omega⟩, bd_cells (by have := asc_len (o.asc q hq) (o.rg q hq); omega) (o.rg q hq)⟩
theorem all_mapP {α : Type} (f : α → Bool) (l : List α) : (l.map f).all id = l.all f := by simp
theorem ivs_at {c : List Int} {i : Nat} (h : i < c.length) : (ivs c)[i]? = some (.int (c.getD i 0)) := by
  unfold ivs
  rw [List.getElem?_map, List.getElem?_eq_getElem h, List.getD_eq_getElem?_getD, List.getElem?_eq_getElem h]
  rfl
/-- what a pattern's rows hold while it is locked -/
theorem row_facts {H : Hp} {a : Addr} {rows : List (L2.Key × V)} {ps : Ptn} {od : Obj} {n : Nat} (ha : H a = some (.dK rows)) (hp : Paired (RowV H) rows ps) (o : OkPt n ps) : (rows.map (·.1)).Nodup ∧ ∀ (i : Nat) (k : L2.Key) (v : V), rows[i]? = some (k, v) → ∃ (p : Nat × List Int) (t : Addr), ps[i]? = some p ∧ k = .inl ((p.1 : Nat) : Int) ∧ v = .ref t ∧ upd H a (.frz od (.dK rows)) t = some (.tup (ivs p.2)) := by
  refine ⟨?_, fun i k v h => ?_⟩
  · have e : rows.map (·.1) = ps.map fun p => Sum.inl ((p.1 : Nat) : Int) := by
      clear o ha
      induction hp with
      | nil => rfl
      | cons r t ih => rw [List.map_cons, List.map_cons, ih, r.1]
    rw [e]
    exact List.pairwise_map.mpr ((List.pairwise_map.mp o.nd).imp fun {a b} z e => z (by injection e; omega))
  · obtain ⟨p, h1, e1, t, e2, h2⟩ := paired_get hp h
    exact ⟨p, t, h1, e1, e2, lock_get ha h2 (fun z => by cases z)⟩
/-! dicts that are written: their keys -/
theorem putK_keys {rows : List (L2.Key × V)} {ks : List Int} (h : rows.map (·.1) = ks.map Sum.inl) (z : Int) (v : V) : ∃ ks' : List Int, (putK rows (.inl z) v).map (·.1) = ks'.map Sum.inl ∧ (ks.Nodup → ks'.Nodup) ∧ (∀ x, x ∈ ks' ↔ x ∈ ks ∨ x = z) ∧ ks'.length ≤ ks.length + 1 := by
  unfold putK
  by_cases c : (rows.any fun kv => decide (kv.1 = .inl z)) = true
  · rw [if_pos c]
    have hz : z ∈ ks := by
      obtain ⟨p, hp, e⟩ := List.any_eq_true.mp c
      have e' := of_decide_eq_true e
      have m : (Sum.inl z : L2.Key) ∈ rows.map (·.1) := List.mem_map.mpr ⟨p, hp, e'⟩
      rw [h] at m
      obtain ⟨y, hy, e2⟩ := List.mem_map.mp m
      injection e2 with e2
      rw [← e2]
      exact hy
    refine ⟨ks, ?_, id, fun x => ⟨.inl, fun y => ?_⟩, Nat.le_succ _⟩
    · rw [← h, List.map_map]
      refine List.map_congr_left fun p _ => ?_
      show (if p.1 = .inl z then (p.1, v) else p).1 = p.1
      split <;> rfl
    · rcases y with y | rfl
      · exact y
      · exact hz
  · rw [if_neg c]
    have hz : z ∉ ks := fun hz => c (List.any_eq_true.mpr (by
      have m : (Sum.inl z : L2.Key) ∈ rows.map (·.1) := by rw [h]; exact List.mem_map.mpr ⟨z, hz, rfl⟩
      obtain ⟨p, hp, e⟩ := List.mem_map.mp m
      exact ⟨p, hp, decide_eq_true e⟩))
    refine ⟨ks ++ [z], ?_, fun n => ?_, fun x => ?_, by rw [List.length_append]; exact Nat.le_refl _⟩
    · rw [List.map_append, List.map_append, h]
      rfl
    · exact List.nodup_append.mpr ⟨n, by simp, fun x hx y hy e => by rw [List.mem_singleton.mp hy] at e; exact hz (e ▸ hx)⟩
    · rw [List.mem_append, List.mem_singleton]
theorem putK_snoc {rows : List (L2.Key × V)} {k : L2.Key} {v : V} (h : k ∉ rows.map (·.1)) : putK rows k v = rows ++ [(k, v)] := by
  unfold putK
  rw [if_neg]
  intro c
  obtain ⟨p, hp, e⟩ := List.any_eq_true.mp c
  exact h (List.mem_map.mpr ⟨p, hp, of_decide_eq_true e⟩)
/-- a dict of numbers, whatever they hold -/
def KeyV (H : Hp) (a : Addr) (ks : List Int) : Prop := ∃ rows : List (L2.Key × V), H a = some (.dK rows) ∧ rows.map (·.1) = ks.map Sum.inl
theorem KeyV.kp {p a : Addr} {H H' : Hp} {ks : List Int} (h : KeyV H a ks) (k : Kp p H H') : KeyV H' a ks := by
  obtain ⟨rows, h1, h2⟩ := h
  exact ⟨rows, k _ _ (.inr fun l e => by cases e) h1, h2⟩
theorem rows_upd {H : Hp} {a : Addr} {o u : HO} {rows : List (L2.Key × V)} {ps : Ptn} (e : H a = some u) (n : ∀ l, u ≠ .tup l) (h : Paired (RowV H) rows ps) : Paired (RowV (upd H a o)) rows ps := L2.Paired.mapP h fun _ _ ⟨e1, t, e2, z⟩ => ⟨e1, t, e2, by
  rw [upd_ne (fun q => by rw [q, e] at z; exact n _ (Option.some.inj z))]
  exact z⟩
theorem rows_keys {H : Hp} {rows : List (L2.Key × V)} {ps : Ptn} (h : Paired (RowV H) rows ps) : rows.map (·.1) = ps.map fun p => (Sum.inl ((p.1 : Nat) : Int) : L2.Key) := by
  induction h with
  | nil => rfl
  | cons r t ih => rw [List.map_cons, List.map_cons, ih, r.1]
end Af

set_option Elab.async false
set_option linter.all false
set_option maxRecDepth 100000
set_option maxHeartbeats 4000000
namespace Af
open PySem L2
abbrev s_is_ascending : Stmt := top 9
abbrev N_is_ascending : List Str := ["things", "at"]
theorem sc_is_ascending : FnScope N_is_ascending ["things"] (defScope s_is_ascending) := ⟨rfl, rfl, rfl, by decide +kernel, rfl, by decide +kernel, by decide +kernel⟩

abbrev s_are_let : Stmt := top 16
abbrev N_are_let : List Str := ["thing"]
theorem sc_are_let : FnScope N_are_let ["thing"] (defScope s_are_let) := ⟨rfl, rfl, rfl, by decide +kernel, rfl, by decide +kernel, by decide +kernel⟩

abbrev s_is_pattern : Stmt := top 15
abbrev N_is_pattern : List Str := ["cells", "thing", "cell"]
theorem sc_is_pattern : FnScope N_is_pattern ["cells", "thing"] (defScope s_is_pattern) := ⟨rfl, rfl, rfl, by decide +kernel, rfl, by decide +kernel, by decide +kernel⟩

abbrev s_agrees : Stmt := top 17
abbrev N_agrees : List Str := ["pattern", "content", "cell"]
theorem sc_agrees : FnScope N_agrees ["pattern", "content"] (defScope s_agrees) := ⟨rfl, rfl, rfl, by decide +kernel, rfl, by decide +kernel, by decide +kernel⟩

abbrev s_l_is_met : Stmt := top 59
abbrev N_l_is_met : List Str := ["_law_pattern_here", "_law_content_here", "_law_one"]
theorem sc_l_is_met : FnScope N_l_is_met ["_law_pattern_here", "_law_content_here"] (defScope s_l_is_met) := ⟨rfl, rfl, rfl, by decide +kernel, rfl, by decide +kernel, by decide +kernel⟩

def sp_ascT : Sp := fun vs H Q _ => ∃ (a : Addr) (ws : List Int), vs = [.ref a] ∧ H a = some (.tup (ivs ws)) ∧ ws.length ≤ 1000 ∧ ∀ H', Same H H' → Q (.bl (ascB ws)) H'
def sp_let (K : PySem.W.Frag) : Sp := fun vs H Q _ => ∃ (v : V) (d : PyData), vs = [v] ∧ Dx K H v d ∧ WdD d ∧ ∀ H', Same H H' → Q (.bl (letD d)) H'
def sp_is_pattern (K : PySem.W.Frag) : Sp := fun vs H Q _ => ∃ (n : Int) (v : V) (d : PyData), vs = [.int n, v] ∧ Dx K H v d ∧ SzP d ∧ ∀ H', Same H H' → Q (.bl (patB n d)) H'
def sp_agrees : Sp := fun vs H Q _ => ∃ (a ca : Addr) (n : Nat) (ps : Ptn) (c : List Int), vs = [.ref a, .ref ca] ∧ PatV H a ps ∧ OkPt n ps ∧ ps.length ≤ 1000 ∧ H ca = some (.tup (ivs c)) ∧ n ≤ c.length ∧ ∀ H', Same H H' → Q (.bl (agB ps c)) H'
section
variable {P : Program} {w : World} {K : PySem.W.Frag} {mg : Str → Option Value} {base : Heap}
theorem ok_ascT {f : Addr} {fd : FuncData} (F : Fun K "is_ascending" "is_ascending" s_is_ascending f fd) (T : Txt mg) : FnOk P w K mg base CX0 1 f fd ["things"] sp_ascT := by
  refine F.ok sc_is_ascending (fun vs H Q E h => ?_) (fun cdv A outer s H vs Q E hr h => ?_)
  · obtain ⟨_, _, rfl, _⟩ := h
    rfl
  obtain ⟨a, ws, rfl, ha, wl, k⟩ := h
  refine ⟨_, (pss_one (ps_ret (pe_callB (cr_all rfl) (by rfl) T.all (by decide +kernel) (pa_cons (pe_lc (own := [("at", 1)]) (g := (gName 1)) (tt := tYes) rfl sc_is_ascending.nd (pi_range1 rfl T.range (pa_cons (pe_op op_sub (pe_callB call_len' (by rfl) T.len (by decide +kernel) (pa_cons (pv 0) pa_nil)) pe_int) pa_nil)) (blkOk_by (own := [("at", 1)]) (N := N_is_ascending) (sc := defScope s_is_ascending) (by decide +kernel)) (fun _ _ _ _ _ => pg_name (i := 1) sc_is_ascending.nd rfl (Or.inl rfl)) (fun _ _ _ _ _ => pts_nil) (fun _ _ _ _ _ => (pe_cmpR op_lt (pe_ix ix_seq' (pv 0) (pv 1) (fun _ _ => rfl)) (pe_ix ix_seq' (pv 0) (pe_op op_add (pv 1) pe_int) (fun _ _ => rfl)) (nomark _)))) pa_nil)))), ?_⟩
  refine ⟨_, rfl, a, _, rfl, .inr ha, _, _, rfl, rfl, _, rfl, by rw [ivs_len]; omega, by rw [ivs_len]; omega, fun D hD => lc_range (lo := 0) (fun i H' => Same H H' ∧ H' D = some (.lst (((List.range i).map (stI ws)).map V.bl))) ?_ ?_ ?_⟩
  · exact ⟨same_new hD, upd_same⟩
  · rintro i H' hi ⟨s1, h1⟩
    rw [ivs_len] at hi
    have i1 : i < ws.length := by omega
    have i2 : i + 1 < ws.length := by omega
    refine ⟨rfl, _, rfl, _, rfl, a, _, _, _, rfl, rfl, .inr (s1 _ _ ha), at_of (Int.zero_add _) (ivs_at i1), _, rfl, _, rfl, _, _, rfl, rfl, a, _, _, _, rfl, rfl, .inr (s1 _ _ ha), at_of (by omega) (ivs_at i2), _, _, rfl, rfl, ?_⟩
    refine ⟨_, h1, szl (by rw [List.length_map, List.length_map, List.length_range]; omega), same_mut s1 hD, ?_⟩
    rw [upd_same, List.range_succ, List.map_append, List.map_append]
    rfl
  · rintro H1 ⟨s1, h1⟩
    refine ⟨D, _, rfl, SqL.of h1, ?_⟩
    rw [all_mapP, ivs_len, show (((ws.length : Nat) : Int) - 1).toNat = ws.length - 1 by omega, asc_range]
    exact k H1 s1
theorem ok_let {f : Addr} {fd : FuncData} (F : Fun K "are_let" "are_let" s_are_let f fd) (T : Txt mg) (c_are_worths : Cal P w K mg base 3 "are_worths" ["thing"] (sp_are_worths K)) (c_is_ascending : Cal P w K mg base 1 "is_ascending" ["things"] sp_ascT) : FnOk P w K mg base CX0 4 f fd ["thing"] (sp_let K) := by
  refine F.ok sc_are_let (fun vs H Q E h => ?_) (fun cdv A outer s H vs Q E hr h => ?_)
  · obtain ⟨_, _, rfl, _⟩ := h
    rfl
  obtain ⟨v, d, rfl, dx, wd, k⟩ := h
  refine ⟨_, (pss_one (ps_ret (pe_and (pe_cal c_are_worths hr (pa_cons (pv 0) pa_nil)) (pe_one (pe_cal c_is_ascending hr (pa_cons (pv 0) pa_nil)))))), ?_⟩
  refine ⟨_, rfl, v, rfl, dx_th1 dx wd, fun H1 s1 => ?_⟩
  rw [dx_worths dx]
  refine ⟨_, rfl, ?_⟩
  unfold letD at k
  cases c : worthsD d with
  | false =>
    rw [c] at k
    exact k H1 s1
  | true =>
    rw [c, Bool.true_and] at k
    obtain ⟨a, rfl, ha, _, _⟩ := dx_let dx c
    have wl : (intsD d).length ≤ 1000 := by
      cases d with
      | tuple ds => show (ds.map intD).length ≤ 1000; rw [List.length_map]; exact wd ds (.inl rfl)
      | _ => exact Nat.zero_le _
    exact ⟨_, rfl, a, _, rfl, s1 _ _ ha, wl, fun H2 s2 => k H2 (s1.trans s2)⟩
theorem ok_is_pattern {f : Addr} {fd : FuncData} (F : Fun K "is_pattern" "is_pattern" s_is_pattern f fd) (T : Txt mg) (t_dict : mg "dict" = none) (c_is_index : Cal P w K mg base 2 "is_index" ["thing", "many"] (sp_is_index K)) (c_are_let : Cal P w K mg base 4 "are_let" ["thing"] (sp_let K)) : FnOk P w K mg base CX0 5 f fd ["cells", "thing"] (sp_is_pattern K) := by
  refine F.ok sc_is_pattern (fun vs H Q E h => ?_) (fun cdv A outer s H vs Q E hr h => ?_)
  · obtain ⟨_, _, _, rfl, _⟩ := h
    rfl
  obtain ⟨n, v, d, rfl, dx, wd, k⟩ := h
  refine ⟨_, (pss_cons (ps_if (pt_not (pt_val (pe_callB call_isi' (by rfl) T.isinstance (by decide +kernel) (pa_cons (pv 1) (pa_cons (pe_bltn (v := .ty "dict") (by rfl) t_dict (by decide +kernel) rfl) pa_nil)))))
      (pss_one (ps_ret pe_bl))
      pss_nil)
    (pss_one (ps_ret (pe_callB (cr_all rfl) (by rfl) T.all (by decide +kernel) (pa_cons (pe_lock (pe_lc (own := [("cell", 2)]) (g := (gName 2)) (tt := tYes) rfl sc_is_pattern.nd (pi_keys (pv 1)) (blkOk_by (own := [("cell", 2)]) (N := N_is_pattern) (sc := defScope s_is_pattern) (by decide +kernel)) (fun _ _ _ _ _ => pg_name (i := 2) sc_is_pattern.nd rfl (Or.inl rfl)) (fun _ _ _ _ _ => pts_nil) (fun _ _ _ _ _ => (pe_and (pe_cal c_is_index hr (pa_cons (pv 2) (pa_cons (pv 0) pa_nil))) (pe_one (pe_cal c_are_let hr (pa_cons (pe_dget hr.u1 (pv 1) (pv 2) (fun _ _ => rfl)) pa_nil))))))) pa_nil))))), ?_⟩
  rcases dx_dict_or dx with ⟨a, rows, kvs, rfl, ha, rfl, dr⟩ | ⟨tn, ty, no, nd⟩
  · obtain ⟨len, knd, small⟩ := wd kvs rfl
    have rnd := dr.nd knd
    have drL : ∀ od, DxKv K (upd H a (.frz od (.dK rows))) rows kvs := fun od => dr.lock ha
    have rl := dr.len
    refine ⟨_, rfl, _, "dict", "dict", rfl, ty_d ha, by decide, _, rfl, ?_⟩
    rw [isB_dd]
    refine iteF ⟨a, _, ha, True.intro, fun od => ?_⟩
    refine ⟨_, rfl, a, od, rfl, .inl ⟨rows, upd_same, fun D hD => lc_it (walk_keys (d := a) (o := od) (kvs := rows)) (fun i H' => Same (upd H a (.frz od (.dK rows))) H' ∧ H' D = some (.lst (((kvs.take i).map fun p => idxD n p.1 && letD p.2).map V.bl))) ?_ ?_ ?_ ?_⟩⟩
    · exact ⟨same_new hD, upd_same⟩
    · rintro i H' _ ⟨s1, _⟩
      exact s1 _ _ upd_same
    · rintro i x H' H1 hi ⟨s1, h1⟩ ⟨rfl, ky, v, hy, rfl⟩
      obtain ⟨dv, hdv, dq⟩ := (drL od).at hy
      have dq1 : Dx K H1 v dv := Dx.same s1 dq
      have fin : ∀ H2 b, Same H1 H2 → (idxD n (keyD ky) && letD dv) = b → ∃ acc, H2 D = some (.lst acc) ∧ acc.length < sizeLine ∧ Same (upd H a (.frz od (.dK rows))) (upd H2 D (.lst (acc ++ [V.bl b]))) ∧ (upd H2 D (.lst (acc ++ [V.bl b]))) D = some (.lst (((kvs.take (i + 1)).map fun p => idxD n p.1 && letD p.2).map V.bl)) := fun H2 b s2 e => by
        refine ⟨_, s2 _ _ h1, szl (by rw [List.length_map, List.length_map, List.length_take]; omega), same_mut (s1.trans s2) hD, ?_⟩
        rw [upd_same, List.take_add_one, hdv, List.map_append, List.map_append, ← e]
        rfl
      obtain ⟨tn, ty⟩ := key_ty (K := K) (H := H1) ky
      refine ⟨rfl, _, rfl, _, rfl, _, _, tn, rfl, ty, ?_⟩
      rw [key_idx]
      refine ⟨_, rfl, ?_⟩
      cases c : idxD n (keyD ky) with
      | false => exact fin _ _ (Same.refl _) (by rw [c]; rfl)
      | true =>
        refine ⟨_, rfl, _, rfl, a, v, rfl, .inl ⟨rows, ky, .inr ⟨od, s1 _ _ upd_same⟩, rfl, (valV_at rnd hy).symm⟩, v, dv, rfl, dq1, small _ (List.mem_of_getElem? hdv), fun H2 s2 => ?_⟩
        exact fin H2 _ s2 (by rw [c]; rfl)
    · rintro H1 ⟨s1, h1⟩
      rw [rl, List.take_length] at h1
      have S := lock_same ha s1
      have nDa : D ≠ a := fun z => by
        rw [z, upd_same] at hD
        cases hD
      have h2 : (upd H1 a (.dK rows)) D = some (.lst _) := (upd_ne nDa).trans h1
      refine ⟨s1 _ _ upd_same, D, _, rfl, SqL.of h2, ?_⟩
      rw [all_mapP]
      exact k _ S
  · refine ⟨_, rfl, v, tn, "dict", rfl, ty, by decide, _, rfl, ?_⟩
    rw [no]
    have e : patB n d = false := by
      cases d with
      | dict kvs => exact absurd rfl (nd kvs)
      | _ => rfl
    have kk := k H (Same.refl _)
    rw [e] at kk
    exact iteT kk
theorem ok_agrees {f : Addr} {fd : FuncData} (F : Fun K "agrees" "agrees" s_agrees f fd) (T : Txt mg) : FnOk P w K mg base CX0 1 f fd ["pattern", "content"] sp_agrees := by
  refine F.ok sc_agrees (fun vs H Q E h => ?_) (fun cdv A outer s H vs Q E hr h => ?_)
  · obtain ⟨_, _, _, _, _, rfl, _⟩ := h
    rfl
  obtain ⟨a, ca, n, ps, c, rfl, pvt, o, pl, hc, nc, k⟩ := h
  obtain ⟨rows, ha, hp⟩ := pvt.ex
  have rl := paired_len hp
  refine ⟨_, (pss_one (ps_ret (pe_callB (cr_all rfl) (by rfl) T.all (by decide +kernel) (pa_cons (pe_lock (pe_lc (own := [("cell", 2)]) (g := (gName 2)) (tt := tYes) rfl sc_agrees.nd (pi_keys (pv 0)) (blkOk_by (own := [("cell", 2)]) (N := N_agrees) (sc := defScope s_agrees) (by decide +kernel)) (fun _ _ _ _ _ => pg_name (i := 2) sc_agrees.nd rfl (Or.inl rfl)) (fun _ _ _ _ _ => pts_nil) (fun _ _ _ _ _ => (pe_cmpR (op_inK (K := K) rfl) (pe_ix ix_seq' (pv 1) (pv 2) (fun _ _ => rfl)) (pe_dget hr.u1 (pv 0) (pv 2) (fun _ _ => rfl)) (by rfl))))) pa_nil)))), ?_⟩
  refine ⟨a, _, ha, True.intro, fun od => ?_⟩
  obtain ⟨rnd, rf⟩ := row_facts (od := od) ha hp o
  refine ⟨_, rfl, a, od, rfl, .inl ⟨rows, upd_same, fun D hD => lc_it (walk_keys (d := a) (o := od) (kvs := rows)) (fun i H' => Same (upd H a (.frz od (.dK rows))) H' ∧ H' D = some (.lst (((ps.take i).map fun p => p.2.contains (c.getD p.1 0)).map V.bl))) ?_ ?_ ?_ ?_⟩⟩
  · exact ⟨same_new hD, upd_same⟩
  · rintro i H' _ ⟨s1, _⟩
    exact s1 _ _ upd_same
  · rintro i x H' H1 hi ⟨s1, h1⟩ ⟨rfl, ky, v, hy, rfl⟩
    obtain ⟨p, t, hpi, rfl, rfl, ht⟩ := rf i _ _ hy
    have kb := o.kb p (List.mem_of_getElem? hpi)
    have hc1 : H1 ca = some (.tup (ivs c)) := s1 _ _ (lock_get ha hc (fun z => by cases z))
    refine ⟨rfl, _, rfl, _, rfl, ca, _, _, _, rfl, rfl, .inr hc1, atI_nat (ivs_at (show p.1 < c.length by omega)), _, rfl, _, rfl, a, .ref t, rfl, .inl ⟨rows, .inl ((p.1 : Nat) : Int), .inr ⟨od, s1 _ _ upd_same⟩, rfl, (valV_at rnd hy).symm⟩, ?_⟩
    refine ⟨t, _, rfl, .inr (SqT.of (s1 _ _ ht)), rfl, flat_ivs _, _, h1, szl (by rw [List.length_map, List.length_map, List.length_take]; omega), same_mut s1 hD, ?_⟩
    rw [upd_same, List.take_add_one, hpi, List.map_append, List.map_append, in_ivs]
    rfl
  · rintro H1 ⟨s1, h1⟩
    rw [rl, List.take_length] at h1
    have S := lock_same ha s1
    have nDa : D ≠ a := fun z => by
      rw [z, upd_same] at hD
      cases hD
    have h2 : (upd H1 a (.dK rows)) D = some (.lst _) := (upd_ne nDa).trans h1
    refine ⟨s1 _ _ upd_same, D, _, rfl, SqL.of h2, ?_⟩
    rw [all_mapP]
    exact k _ S
theorem ok_is_met {f : Addr} {fd : FuncData} (F : Fun K "_law_is_met" "_law_is_met" s_l_is_met f fd) (T : Txt mg) : FnOk P w K mg base CX0 1 f fd ["_law_pattern_here", "_law_content_here"] sp_agrees := by
  refine F.ok sc_l_is_met (fun vs H Q E h => ?_) (fun cdv A outer s H vs Q E hr h => ?_)
  · obtain ⟨_, _, _, _, _, rfl, _⟩ := h
    rfl
  obtain ⟨a, ca, n, ps, c, rfl, pvt, o, pl, hc, nc, k⟩ := h
  obtain ⟨rows, ha, hp⟩ := pvt.ex
  have rl := paired_len hp
  refine ⟨_, (pss_one (ps_ret (pe_callB (cr_all rfl) (by rfl) T.all (by decide +kernel) (pa_cons (pe_lock (pe_lc (own := [("_law_one", 2)]) (g := (gName 2)) (tt := tYes) rfl sc_l_is_met.nd (pi_keys (pv 0)) (blkOk_by (own := [("_law_one", 2)]) (N := N_l_is_met) (sc := defScope s_l_is_met) (by decide +kernel)) (fun _ _ _ _ _ => pg_name (i := 2) sc_l_is_met.nd rfl (Or.inl rfl)) (fun _ _ _ _ _ => pts_nil) (fun _ _ _ _ _ => (pe_cmpR (op_inK (K := K) rfl) (pe_ix ix_seq' (pv 1) (pv 2) (fun _ _ => rfl)) (pe_dget hr.u1 (pv 0) (pv 2) (fun _ _ => rfl)) (by rfl))))) pa_nil)))), ?_⟩
  refine ⟨a, _, ha, True.intro, fun od => ?_⟩
  obtain ⟨rnd, rf⟩ := row_facts (od := od) ha hp o
  refine ⟨_, rfl, a, od, rfl, .inl ⟨rows, upd_same, fun D hD => lc_it (walk_keys (d := a) (o := od) (kvs := rows)) (fun i H' => Same (upd H a (.frz od (.dK rows))) H' ∧ H' D = some (.lst (((ps.take i).map fun p => p.2.contains (c.getD p.1 0)).map V.bl))) ?_ ?_ ?_ ?_⟩⟩
  · exact ⟨same_new hD, upd_same⟩
  · rintro i H' _ ⟨s1, _⟩
    exact s1 _ _ upd_same
  · rintro i x H' H1 hi ⟨s1, h1⟩ ⟨rfl, ky, v, hy, rfl⟩
    obtain ⟨p, t, hpi, rfl, rfl, ht⟩ := rf i _ _ hy
    have kb := o.kb p (List.mem_of_getElem? hpi)
    have hc1 : H1 ca = some (.tup (ivs c)) := s1 _ _ (lock_get ha hc (fun z => by cases z))
    refine ⟨rfl, _, rfl, _, rfl, ca, _, _, _, rfl, rfl, .inr hc1, atI_nat (ivs_at (show p.1 < c.length by omega)), _, rfl, _, rfl, a, .ref t, rfl, .inl ⟨rows, .inl ((p.1 : Nat) : Int), .inr ⟨od, s1 _ _ upd_same⟩, rfl, (valV_at rnd hy).symm⟩, ?_⟩
    refine ⟨t, _, rfl, .inr (SqT.of (s1 _ _ ht)), rfl, flat_ivs _, _, h1, szl (by rw [List.length_map, List.length_map, List.length_take]; omega), same_mut s1 hD, ?_⟩
    rw [upd_same, List.take_add_one, hpi, List.map_append, List.map_append, in_ivs]
    rfl
  · rintro H1 ⟨s1, h1⟩
    rw [rl, List.take_length] at h1
    have S := lock_same ha s1
    have nDa : D ≠ a := fun z => by
      rw [z, upd_same] at hD
      cases hD
    have h2 : (upd H1 a (.dK rows)) D = some (.lst _) := (upd_ne nDa).trans h1
    refine ⟨s1 _ _ upd_same, D, _, rfl, SqL.of h2, ?_⟩
    rw [all_mapP]
    exact k _ S
end
end Af

set_option Elab.async false
set_option linter.all false
set_option maxRecDepth 100000
set_option maxHeartbeats 4000000
namespace Af
open PySem L2
abbrev s_l_some : Stmt := top 44
abbrev N_l_some : List Str := ["_law_pen_here", "_law_pool", "_law_most", "_law_rest", "_law_turn"]
theorem sc_l_some : FnScope N_l_some ["_law_pen_here", "_law_pool", "_law_most"] (defScope s_l_some) := ⟨rfl, rfl, rfl, by decide +kernel, rfl, by decide +kernel, by decide +kernel⟩

theorem idx_some {ls : List Nat} {x : Nat} (h : x ∈ ls) : ls.idxOf x < ls.length ∧ ls[ls.idxOf x]? = some x ∧ ∀ m z, m < ls.idxOf x → ls[m]? = some z → z ≠ x := by
  have l := List.idxOf_lt_length_of_mem h
  refine ⟨l, by rw [List.getElem?_eq_getElem l, List.getElem_idxOf], fun m z hm hz e => ?_⟩
  have ml : m < ls.length := by omega
  rw [List.getElem?_eq_getElem ml] at hz
  have e2 : ls[m] = x := by rw [Option.some.inj hz, e]
  have := List.not_of_lt_findIdx (p := (· == x)) (xs := ls) (i := m) hm
  rw [e2] at this
  simp at this
theorem pe_popK {X : Cx} {K : PySem.W.Frag} {o e : Expr} {es : List Expr} {to : TE} {t : TA} {apos cpos : Pos} (hK : X.K = K) (ho : PE X o to) (ha : PA X (e :: es) t)
    (hbase : attributeBase o "pop" X.env (eval o X.env) = eval o X.env := by rfl)
    (hfew : ((backTo cpos (starEach (e :: es) X.env)).all (fun x => !x.1) && (backToKw cpos (keywordEach [] X.env)).all (fun x => x.1.isSome)
      && decide ((e :: es).length + ([] : List Keyword).length + (if ([] : List Keyword).isEmpty then 0 else 1) < 30)) = true := by rfl)
    (hline : (apos.endLine == cpos.line) = true := by rfl) (hs : starEach (e :: es) X.env = (false, eval e X.env) :: starEach es X.env := by rfl) (hplain : (backTo cpos (starEach es X.env)).any (·.1) = false := by rfl) :
    PE X (.Call (.Attribute o "pop" apos) (e :: es) [] cpos) (tBM K "list" rPopAt to t) := by
  subst hK
  exact pe_bm PySem.F.plainAttrs_list PySem.F.slot_list_pop PySem.F.type_list_pop mt_popAt ho ha hbase hfew hline hs hplain
theorem eraseV {α : Type} : ∀ (l : List α) (n : Nat) (h : n < l.length), (l[n] :: l.eraseIdx n).Perm l
  | [], _, h => absurd h (Nat.not_lt_zero _)
  | _ :: _, 0, _ => List.Perm.refl _
  | a :: l, n + 1, h => (List.Perm.swap a _ _).trans ((eraseV l n (Nat.lt_of_succ_lt_succ h)).cons a)
theorem paired_perm {α β : Type} {R : α → β → Prop} {a b : List α} (p : a.Perm b) : ∀ {l : List β}, Paired R b l → ∃ l', Paired R a l' ∧ l'.Perm l := by
  induction p with
  | nil => intro l h; exact ⟨l, h, List.Perm.refl _⟩
  | cons x _ ih =>
    intro l h
    cases h with
    | cons r t =>
      obtain ⟨l', h1, h2⟩ := ih t
      exact ⟨_ :: l', .cons r h1, h2.cons _⟩
  | swap x y l0 =>
    intro l h
    cases h with
    | cons r t =>
      cases t with
      | cons r2 t2 => exact ⟨_, .cons r2 (.cons r t2), List.Perm.swap _ _ _⟩
  | trans _ _ ih1 ih2 =>
    intro l h
    obtain ⟨l1, h1, p1⟩ := ih2 h
    obtain ⟨l2, h2, p2⟩ := ih1 h1
    exact ⟨l2, h2, p2.trans p1⟩
theorem paired_split {α β : Type} {R : α → β → Prop} : ∀ {a b : List α} {l : List β}, Paired R (a ++ b) l → ∃ l1 l2, l = l1 ++ l2 ∧ Paired R a l1 ∧ Paired R b l2
  | [], _, l, h => ⟨[], l, rfl, .nil, h⟩
  | x :: a, b, _, .cons r t => by
    obtain ⟨l1, l2, e, h1, h2⟩ := paired_split t
    exact ⟨_ :: l1, l2, by rw [e]; rfl, .cons r h1, h2⟩
def NatV (x : V) (p : Nat) : Prop := x = .int ((p : Nat) : Int)
theorem paired_nvs : ∀ ps : List Nat, Paired NatV (nvs ps) ps
  | [] => .nil
  | p :: ps => .cons rfl (paired_nvs ps)
theorem nvs_paired : ∀ {xs : List V} {ps : List Nat}, Paired NatV xs ps → xs = nvs ps
  | _, _, .nil => rfl
  | _, _, .cons r t => by
    have e : _ = V.int _ := r
    rw [e, nvs_paired t]
    rfl
def sp_someV : Sp := fun vs H Q _ => ∃ (q : Pn) (m : Nat) (c : Addr) (xs : List V) (most : Int), vs = [.ref q.p, .ref c, .int most] ∧ Pen q m H ∧ m + 101 < 1000000000000 ∧ H c = some (.lst xs) ∧ xs.length ≤ 1000 ∧ 0 ≤ most ∧ most ≤ 100 ∧
  ∀ l H' ys rest, Go q (m + 101) H H' → H l = none → H' l = some (.lst ys) → (ys ++ rest).Perm xs → (ys.length : Int) ≤ most → Q (.ref l) H'
section
variable {P : Program} {w : World} {K : PySem.W.Frag} {mg : Str → Option Value} {base : Heap}
theorem ok_someV {f : Addr} {fd : FuncData} (F : Fun K "_law_some" "_law_some" s_l_some f fd) (T : Txt mg) (c_l_draw : Cal P w K mg base 2 "_law_draw" ["_law_pen_here", "_law_under"] sp_draw) : FnOk P w K mg base CX0 3 f fd ["_law_pen_here", "_law_pool", "_law_most"] sp_someV := by
  refine F.ok sc_l_some (fun vs H Q E h => ?_) (fun cdv A outer s H vs Q E hr h => ?_)
  · obtain ⟨_, _, _, _, _, rfl, _⟩ := h
    rfl
  obtain ⟨q, m, c, xs, most, rfl, pn, hm, hc, lc, m0, m1, k⟩ := h
  refine ⟨_, (pss_cons (ps_set (i := 3) sc_l_some.nd rfl (Or.inr rfl) (pe_callTy call_list' (by rfl) T.list (by decide +kernel) (pa_cons (pv 1) pa_nil)))
    (pss_one (ps_ret (pe_lc (own := [("_law_turn", 4)]) (g := (gName 4)) (tt := tYes) rfl sc_l_some.nd (pi_range1 rfl T.range (pa_cons (pe_cal c_l_draw hr (pa_cons (pv 0) (pa_cons (pe_op op_add (pe_callB (call_min2 rfl) (by rfl) T.min (by decide +kernel) (pa_cons (pv 2) (pa_cons (pe_callB call_len' (by rfl) T.len (by decide +kernel) (pa_cons (pv 3) pa_nil)) pa_nil))) pe_int) pa_nil))) pa_nil)) (blkOk_by (own := [("_law_turn", 4)]) (N := N_l_some) (sc := defScope s_l_some) (by decide +kernel)) (fun _ _ _ _ _ => pg_name (i := 4) sc_l_some.nd rfl (Or.inl rfl)) (fun _ _ _ _ _ => pts_nil) (fun _ _ _ _ _ => (pe_popK (K := K) rfl (pv 3) (pa_cons (pe_cal c_l_draw hr (pa_cons (pv 0) (pa_cons (pe_callB call_len' (by rfl) T.len (by decide +kernel) (pa_cons (pv 3) pa_nil)) pa_nil))) pa_nil))))))), ?_⟩
  refine ⟨_, rfl, c, _, rfl, .inl hc, fun r H1 n1 s1 h1 => ?_⟩
  have pn1 := pn.same s1
  have nr := pn.free n1
  refine ⟨_, rfl, _, rfl, _, rfl, r, _, rfl, .inl h1, ?_⟩
  obtain ⟨mn, hmn, mn0, mn1, mn2, mn3⟩ : ∃ mn : Int, (if ((xs.length : Nat) : Int) < most then ((xs.length : Nat) : Int) else most) = mn ∧ 0 ≤ mn ∧ mn ≤ (xs.length : Int) ∧ mn ≤ 100 ∧ mn ≤ most := by
    by_cases z : ((xs.length : Nat) : Int) < most
    · exact ⟨_, if_pos z, by omega, by omega, by omega, by omega⟩
    · exact ⟨_, if_neg z, by omega, by omega, by omega, by omega⟩
  refine ⟨_, _, rfl, ?_⟩
  rw [hmn]
  refine ⟨_, _, rfl, rfl, q, m, _, rfl, by omega, by omega, pn1, by omega, fun d H2 d0 d1 g2 => ⟨_, rfl, by omega, by omega, fun D hD => ?_⟩⟩
  have g2' : Go q (m + 1) H H2 := (Go.of pn s1).trans g2
  have hr2 := g2.kp.lst nr.1 h1
  have nD : H D = none := g2'.none pn hD
  have rD : r ≠ D := fun z => by rw [← z, hr2] at hD; cases hD
  refine lc_range (lo := 0) (fun i H' => ∃ rs rest, Go q (m + 1 + i) H H' ∧ H' D = some (.lst rs) ∧ H' r = some (.lst rest) ∧ (rs ++ rest).Perm xs ∧ rs.length = i) ?_ ?_ ?_
  · exact ⟨[], xs, Go.mut pn nD g2', upd_same, by rw [upd_ne rD]; exact hr2, List.Perm.refl _, rfl⟩
  · rintro i H' hi ⟨rs, rest, g, hD', hr', pe, rl⟩
    have tl : rs.length + rest.length = xs.length := by rw [← List.length_append]; exact pe.length_eq
    have ri : 0 < rest.length := by omega
    refine ⟨rfl, _, rfl, .inl ⟨rfl, _, SqL.of hr'⟩, _, rfl, _, rfl, r, _, rfl, .inl hr', q, _, _, rfl, by omega, by omega, g.pen, by omega, fun e H3 e0 e1 g3 => ?_⟩
    obtain ⟨n, rfl⟩ := Int.eq_ofNat_of_zero_le e0
    have nl : n < rest.length := by omega
    have hr3 := g3.kp.lst nr.1 hr'
    have hD3 := g3.kp.lst (pn.free nD).1 hD'
    refine ⟨r, rest, (n : Int), n, rest[n], rfl, rfl, hr3, by omega, by omega, ?_, List.getElem?_eq_getElem nl, ?_⟩
    · unfold seqIndex?
      rw [if_neg (show ¬ (n : Int) < 0 by omega)]
      rw [if_pos (by rw [decide_eq_true (show (0 : Int) ≤ (n : Int) by omega), decide_eq_true (show (n : Int) < (rest.length : Int) by omega)]; rfl)]
      rfl
    refine ⟨_, by rw [upd_ne rD.symm]; exact hD3, szl (by omega), rs ++ [rest[n]], rest.eraseIdx n, ?_, upd_same, ?_, ?_, by rw [List.length_append, rl]; rfl⟩
    · exact (Go.mut pn nD (Go.mut pn n1 (g.trans g3))).mono (by omega)
    · rw [upd_ne rD, upd_same]
    · refine List.Perm.trans ?_ pe
      rw [List.append_assoc]
      exact (eraseV rest n nl).append_left rs
  · rintro H3 ⟨rs, rest, g, hD', hr', pe, rl⟩
    exact k D H3 rs rest (g.mono (by omega)) nD hD' pe (by omega)
end
end Af

set_option Elab.async false
set_option linter.all false
set_option maxRecDepth 100000
set_option maxHeartbeats 8000000
namespace Af
open PySem L2
abbrev s_l_pattern : Stmt := top 60
abbrev N_l_pattern : List Str := ["_law_pen_here", "_law_plan_here", "_law_content_here", "_law_found", "_law_one", "_law_worths_here", "_law_turn"]
theorem sc_l_pattern : FnScope N_l_pattern ["_law_pen_here", "_law_plan_here"] (defScope s_l_pattern) := ⟨rfl, rfl, rfl, by decide +kernel, rfl, by decide +kernel, by decide +kernel⟩

theorem spl_rg {w : Int} : ∀ (r acc : List Int) (st pos : Int) (p : Int × List Int), p ∈ spl w st acc pos r → ∀ z ∈ p.2, z ∈ acc ∨ z ∈ r
  | [], acc, st, pos, p, m => by
    have e : p = (st, acc) := List.mem_singleton.mp m
    subst e
    exact fun z hz => .inl hz
  | x :: r, acc, st, pos, p, m => by
    by_cases c : acc ≠ [] ∧ pos % w = 0
    · rw [spl_cut c] at m
      rcases List.mem_cons.mp m with rfl | m
      · exact fun z hz => .inl hz
      · intro z hz
        rcases spl_rg r [x] pos (pos + 1) p m z hz with h | h
        · exact .inr (by rw [List.mem_singleton.mp h]; exact List.mem_cons_self)
        · exact .inr (List.mem_cons_of_mem _ h)
    · rw [spl_go c] at m
      intro z hz
      rcases spl_rg r (acc ++ [x]) st (pos + 1) p m z hz with h | h
      · rcases List.mem_append.mp h with h | h
        · exact .inl h
        · exact .inr (by rw [List.mem_singleton.mp h]; exact List.mem_cons_self)
      · exact .inr (List.mem_cons_of_mem _ h)
theorem allP_rg {w : Int} {n : Nat} : ∀ {l : List Stp} {i : Nat}, (∀ x ∈ l, OkS n x) → ∀ p ∈ allP w i l, ∀ z ∈ p.2.2, 0 ≤ z ∧ z < 8
  | [], _, _, p, h => by cases h
  | a :: l, i, o, p, h => by
    have h' : p ∈ oneP w i a ++ allP w (i + 1) l := h
    rcases List.mem_append.mp h' with h | h
    · cases a with
      | none => cases h
      | some fw =>
        obtain ⟨f, ws⟩ := fw
        obtain ⟨y, hy, rfl⟩ := List.mem_map.mp h
        obtain ⟨_, _, _, o4⟩ := o _ List.mem_cons_self
        intro z hz
        rcases spl_rg _ _ _ _ _ hy z hz with h | h
        · cases h
        · exact o4 z h
    · exact allP_rg (fun x hx => o x (List.mem_cons_of_mem _ hx)) p h
theorem behF_rg {c : List Int} {p : Int × (Int × List Int)} (h : ∀ z ∈ c, 0 ≤ z ∧ z < 8) (hp : ∀ z ∈ p.2.2, 0 ≤ z ∧ z < 8) : ∀ z ∈ behF c p, 0 ≤ z ∧ z < 8 := fun z hz => by
  unfold behF at hz
  rcases List.mem_append.mp hz with hz | hz
  · rcases List.mem_append.mp hz with hz | hz
    · exact h z (List.mem_of_mem_take hz)
    · exact hp z hz
  · exact h z (List.mem_of_mem_drop hz)
theorem overF_rg {ps : List (Int × (Int × List Int))} (hb : ∀ p ∈ ps, ∀ z ∈ p.2.2, 0 ≤ z ∧ z < 8) : ∀ (ls : List Nat) (c : List Int), (∀ z ∈ c, 0 ≤ z ∧ z < 8) → (∀ k ∈ ls, k < ps.length) → ∀ z ∈ overF ps c ls, 0 ≤ z ∧ z < 8
  | [], c, h, _ => h
  | k :: ls, c, h, kb => by
    have k0 := kb k List.mem_cons_self
    refine overF_rg hb ls (behF c (pcAt ps k)) (behF_rg h ?_) fun j hj => kb j (List.mem_cons_of_mem _ hj)
    unfold pcAt
    rw [List.getD_eq_getElem?_getD, List.getElem?_eq_getElem k0]
    exact hb _ (List.getElem_mem k0)
theorem rgV_nvs (n : Nat) : rgV 0 (n : Int) = nvs (List.range n) := by
  unfold rgV nvs ivs
  rw [List.map_map]
  simp [Function.comp_def]
/-- some numbers of those below n, drawn -/
theorem drawn_cells {n : Nat} {ys rest : List V} (pe : (ys ++ rest).Perm (nvs (List.range n))) : ∃ T : List Nat, ys = nvs T ∧ T.Nodup ∧ ∀ x ∈ T, x < n := by
  obtain ⟨l, h1, h2⟩ := paired_perm pe (paired_nvs _)
  obtain ⟨T0, R0, rfl, h3, h4⟩ := paired_split h1
  refine ⟨T0, nvs_paired h3, (List.nodup_append.mp (h2.nodup_iff.mpr List.nodup_range)).1, fun x hx => List.mem_range.mp (h2.mem_iff.mp (List.mem_append.mpr (.inl hx)))⟩
def sp_lpattern : Sp := fun vs H Q _ => ∃ (q : Pn) (m : Nat) (a ca sa : Addr) (sp : Int) (xs : List V) (sts : List Stp) (cs : List Int), vs = [.ref q.p, .ref a] ∧ Pen q m H ∧ m + 400 < 1000000000000 ∧ H a = some (.tup [.ref ca, .int sp, .ref sa]) ∧ H ca = some (.tup (ivs cs)) ∧ H sa = some (.lst xs) ∧ sa ≠ q.p ∧ Paired (StepV H) xs sts ∧ 0 < sp ∧ xs.length ≤ 90 ∧
  (∀ f ws, some (f, ws) ∈ sts → ws.length ≤ 100) ∧ (∀ x ∈ sts, OkS cs.length x) ∧ cs.length ≤ 24 ∧ (∀ z ∈ cs, 0 ≤ z ∧ z < 8) ∧ (allP sp 0 sts).length ≤ 40 ∧
  ∀ d H' ps, Go q (m + 400) H H' → H d = none → PatV H' d ps → OkPt cs.length ps → ps.length ≤ 4 → Q (.ref d) H'
/-- what stands while a pattern is drawn -/
structure PL (q : Pn) (m : Nat) (H : Hp) (ct l F : Addr) (cc : List Int) (ks : List Nat) (rows : List (L2.Key × V)) (ps : Ptn) (H' : Hp) : Prop where
  go : Go q m H H'
  hc : H' ct = some (.tup (ivs cc))
  hl : H' l = some (.lst (nvs ks))
  hF : H' F = some (.dK rows)
  pr : Paired (RowV H') rows ps
section
variable {q : Pn} {m m' : Nat} {H H' H'' : Hp} {ct l F W : Addr} {cc : List Int} {ks : List Nat} {rows r r' : List (L2.Key × V)} {ps : Ptn}
theorem PL.step (h : PL q m H ct l F cc ks rows ps H') (n : l ≠ q.p) (g : Go q m' H' H'') : PL q m' H ct l F cc ks rows ps H'' :=
  ⟨h.go.trans g, g.kp.tup h.hc, g.kp.lst n h.hl, g.kp _ _ (.inr fun l e => by cases e) h.hF, rows_kp g.kp h.pr⟩
theorem PL.same (h : PL q m H ct l F cc ks rows ps H') (s : Same H' H'') : PL q m H ct l F cc ks rows ps H'' :=
  ⟨h.go.same s, s _ _ h.hc, s _ _ h.hl, s _ _ h.hF, rows_same s h.pr⟩
theorem PL.mono (h : PL q m H ct l F cc ks rows ps H') (n : m ≤ m') : PL q m' H ct l F cc ks rows ps H' := ⟨h.go.mono n, h.hc, h.hl, h.hF, h.pr⟩
theorem PL.mut {m0 : Nat} (h : PL q m H ct l F cc ks rows ps H') (pn : Pen q m0 H) (hW : H' W = some (.dK r)) (nF : W ≠ F) (n : H W = none) : PL q m H ct l F cc ks rows ps (upd H' W (.dK r')) := by
  have tn : ∀ {b : Addr} {u : HO}, H' b = some u → u ≠ .dK r → b ≠ W := fun e ne z => by
    rw [z, hW] at e
    exact ne (Option.some.inj e).symm
  exact ⟨Go.mut pn n h.go, by rw [upd_ne (tn h.hc (fun z => by cases z))]; exact h.hc, by rw [upd_ne (tn h.hl (fun z => by cases z))]; exact h.hl, by rw [upd_ne nF.symm]; exact h.hF, rows_upd hW (fun l z => by cases z) h.pr⟩
end
section
variable {P : Program} {w : World} {K : PySem.W.Frag} {mg : Str → Option Value} {base : Heap}
theorem ok_lpattern {f : Addr} {fd : FuncData} (F : Fun K "_law_pattern" "_law_pattern" s_l_pattern f fd) (T : Txt mg) (t_sorted : mg "sorted" = none) (c_l_draw : Cal P w K mg base 2 "_law_draw" ["_law_pen_here", "_law_under"] sp_draw) (c_l_fall : Cal P w K mg base 4 "_law_fall" ["_law_pen_here", "_law_plan_here"] sp_fall)
    (c_l_left : Cal P w K mg base 3 "_law_left" ["_law_plan_here", "_law_some_here"] sp_left) (c_l_some : Cal P w K mg base 3 "_law_some" ["_law_pen_here", "_law_pool", "_law_most"] sp_someV) : FnOk P w K mg base CX0 5 f fd ["_law_pen_here", "_law_plan_here"] sp_lpattern := by
  refine F.ok sc_l_pattern (fun vs H Q E h => ?_) (fun cdv A outer s H vs Q E hr h => ?_)
  · obtain ⟨_, _, _, _, _, _, _, _, _, rfl, _⟩ := h
    rfl
  obtain ⟨q, m, a, ca, sa, sp, xs, sts, cs, rfl, pn, hm, ha, hca, hsa, nsa, hst, hsp, hxl, hw, hok, c24, hcs, h40, k⟩ := h
  refine ⟨_, (pss_cons (ps_par (i := 2) (j := 3) rfl sc_l_pattern.nd rfl rfl (by decide) rfl rfl (pa_cons (pe_cal c_l_left hr (pa_cons (pv 1) (pa_cons (pe_cal c_l_fall hr (pa_cons (pv 0) (pa_cons (pv 1) pa_nil))) pa_nil))) (pa_cons pe_dnewK pa_nil)) (by rfl))
    (pss_cons (ps_for PassesOwn.never rfl (pi_list (pe_cal c_l_some hr (pa_cons (pv 0) (pa_cons (pe_listRg rfl (by rfl) T.list (prg_1 (by rfl) T.range (pe_callB call_len' (by rfl) T.len (by decide +kernel) (pa_cons (pv 2) pa_nil)))) (pa_cons pe_int pa_nil))))) (pg_name (i := 4) sc_l_pattern.nd rfl (Or.inl rfl))
      (pss_cons (ps_set (i := 5) sc_l_pattern.nd rfl (Or.inl rfl) (pe_disp (pps_cons (pe_ix ix_seq' (pv 2) (pv 4) (fun _ _ => rfl)) pe_bl pps_nil) rfl rfl (by simp) (by decide)))
    (pss_cons (ps_cut (ps_if (pt_cmpR op_eq (pe_cal c_l_draw hr (pa_cons (pv 0) (pa_cons pe_int pa_nil))) pe_int (nomark _))
      (pss_one (ps_set (i := 5) sc_l_pattern.nd rfl (Or.inl rfl) (pe_disp (pps_cons (pe_cal c_l_draw hr (pa_cons (pv 0) (pa_cons pe_int pa_nil))) pe_bl pps_nil) rfl rfl (by simp) (by decide))))
      pss_nil))
    (pss_cons (ps_for PassesOwn.never rfl (pi_range1 rfl T.range (pa_cons (pe_cal c_l_draw hr (pa_cons (pv 0) (pa_cons pe_int pa_nil))) pa_nil)) (pg_name (i := 6) sc_l_pattern.nd rfl (Or.inl rfl))
      (pss_one (ps_asg pe_bl (pg_sub (pv 5) (pe_cal c_l_draw hr (pa_cons (pv 0) (pa_cons pe_int pa_nil))) (set_dict hr.u1)))))
    (pss_one (ps_asg (pe_callTy call_tuple' (by rfl) T.tuple (by decide +kernel) (pa_cons (pe_callB (call_sortedDI rfl) (by rfl) t_sorted (by decide +kernel) (pa_cons (pv 5) pa_nil)) pa_nil)) (pg_sub (pv 3) (pv 4) (set_dict hr.u1))))))))
    (pss_one (ps_ret (pv 3))))), ?_⟩
  refine ⟨_, rfl, _, rfl, _, rfl, q, m, a, ca, sa, sp, xs, sts, rfl, pn, by omega, ha, hsa, hst, hsp, by omega, hw, h40, fun fo H1 ls g1 n1 h1 ll lb lw => ?_⟩
  have ha1 := g1.kp.tup ha
  have hca1 := g1.kp.tup hca
  have hsa1 := g1.kp.lst nsa hsa
  have hst1 := steps_kp g1.kp hst
  refine ⟨a, ca, sa, fo, sp, xs, sts, cs, ls, rfl, ha1, hca1, hsa1, hst1, hsp, by omega, hok, c24, h1, lb, by omega, fun ct H2 s2 h2 => ?_⟩
  have crg := overF_rg (allP_rg (w := sp) (i := 0) hok) ls cs hcs lb
  have cln := overF_len (allP_fit (w := sp) (i := 0) hok) ls cs rfl lb
  generalize overF (allP sp 0 sts) cs ls = cc at h2 crg cln
  have G2 := g1.same s2
  refine fun F hF => ⟨_, _, rfl, ?_⟩
  generalize hH3 : upd H2 F (HO.dK []) = H3
  have s3 : Same H2 H3 := by rw [← hH3]; exact same_new hF
  have hF3 : H3 F = some (.dK []) := by rw [← hH3]; exact upd_same
  have nF : H F = none := G2.none pn hF
  have G3 := G2.same s3
  have h3 := s3 _ _ h2
  refine ⟨_, rfl, _, rfl, ct, _, rfl, .inr h3, _, rfl, RgOk.of_le (by decide) (by rw [ivs_len]; omega) (by decide) (by rw [ivs_len]; omega), fun rl hrl => ?_⟩
  rw [rgV_nvs, ivs_len, cln]
  generalize hH4 : upd H3 rl (HO.lst (nvs (List.range cs.length))) = H4
  have s4 : Same H3 H4 := by rw [← hH4]; exact same_new hrl
  have hr4 : H4 rl = some (.lst (nvs (List.range cs.length))) := by rw [← hH4]; exact upd_same
  have G4 := G3.same s4
  refine ⟨q, _, rl, _, 4, rfl, G4.pen, by omega, hr4, by rw [nvs_len, List.length_range]; omega, by decide, by decide, fun l H5 ys rest g5 n5 h5 pe5 yl5 => ?_⟩
  obtain ⟨ks, rfl, knd0, kb⟩ := drawn_cells pe5
  have kl : ks.length ≤ 4 := by rw [nvs_len] at yl5; omega
  have G5 := (G4.trans g5)
  have nl : H l = none := G4.none pn n5
  have nlp := (pn.free nl).1
  have hc5 := g5.kp.tup (s4 _ _ h3)
  have hF5 : H5 F = some (.dK []) := g5.kp _ _ (.inr fun l e => by cases e) (s4 _ _ hF3)
  have lF : l ≠ F := fun z => by rw [z, hF5] at h5; cases h5
  clear hst1 hsa1 hca1 ha1 h3 h2 hF3 hr4 s2 s3 s4 hrl hF hH3 hH4 n5 pe5 yl5 G2 G3 G4 g5 g1 h1 n1
  refine ⟨l, rfl, ⟨_, SqL.of h5⟩, for_list (K := K) (a := l) (xs := nvs ks) (fun i σ' H' => ∃ v4 v5 v6 rows ps, σ' = [some (.ref q.p), some (.ref a), some (.ref ct), some (.ref F), v4, v5, v6] ∧ Go q (m + 151 + 10 * i) H H' ∧ H' ct = some (.tup (ivs cc)) ∧ H' l = some (.lst (nvs ks)) ∧ H' F = some (.dK rows) ∧ Paired (RowV H') rows ps ∧ ps.map (·.1) = ks.take i ∧ (∀ p ∈ ps, p.2 ≠ []) ∧ (∀ p ∈ ps, p.2.Pairwise (· < ·)) ∧ ∀ p ∈ ps, ∀ z ∈ p.2, 0 ≤ z ∧ z < 8) ?_ ?_ ?_ ?_⟩
  · exact ⟨_, _, _, [], [], rfl, G5.mono (by omega), hc5, h5, hF5, .nil, rfl, fun p h => (by cases h), fun p h => (by cases h), fun p h => (by cases h)⟩
  · rintro i σ' H' _ ⟨_, _, _, _, _, rfl, _, _, h, _⟩
    exact SqL.of h
  · rintro i y σ' H6 hy ⟨v4, v5, v6, rows, ps, rfl, g6, hc6, hl6, hF6, pr, pk, pn1, pa, pg⟩
    obtain ⟨il, rfl⟩ := nvs_lt hy
    have ki := kb _ (List.getElem_mem il)
    have L6 : PL q (m + 151 + 10 * i) H ct l F cc ks rows ps H6 := ⟨g6, hc6, hl6, hF6, pr⟩
    have cin : ks[i] < cc.length := by omega
    have cz := crg _ (List.getElem_mem cin)
    have hcz : (ivs cc)[ks[i]]? = some (.int cc[ks[i]]) := by
      unfold ivs
      rw [List.getElem?_map, List.getElem?_eq_getElem cin]
      rfl
    clear g6 hc6 hl6 hF6 pr hy
    refine fun W0 hW0 => ⟨_, rfl, _, rfl, ct, _, _, _, rfl, rfl, .inr ((same_new hW0) _ _ L6.hc), atI_nat hcz, upd_same, [(.inl cc[ks[i]], .bl true)], rfl, (by simp), ?_⟩
    have nW0 : H W0 = none := L6.go.none pn hW0
    have W0F : W0 ≠ F := fun z => by rw [z, L6.hF] at hW0; cases hW0
    have s7 : Same H6 (upd (upd H6 W0 (.dK [])) W0 (.dK (mergeK [] [(.inl cc[ks[i]], .bl true)]))) := same_mut (same_new hW0) hW0
    have L7 := L6.same s7
    have k7 : KeyV (upd (upd H6 W0 (.dK [])) W0 (.dK (mergeK [] [(.inl cc[ks[i]], .bl true)]))) W0 [cc[ks[i]]] := ⟨_, upd_same, rfl⟩
    generalize upd (upd H6 W0 (.dK [])) W0 (.dK (mergeK [] [(.inl cc[ks[i]], .bl true)])) = H7 at s7 L7 k7
    clear s7 L6 hW0
    refine ⟨fun σ' H' => ∃ W kk v6, σ' = [some (.ref q.p), some (.ref a), some (.ref ct), some (.ref F), some (.int ((ks[i] : Nat) : Int)), some (.ref W), v6] ∧ PL q (m + 151 + 10 * i + 2) H ct l F cc ks rows ps H' ∧ KeyV H' W kk ∧ kk.Nodup ∧ kk ≠ [] ∧ (∀ z ∈ kk, 0 ≤ z ∧ z < 8) ∧ kk.length ≤ 1 ∧ H W = none ∧ W ≠ F, ?_, ?_⟩
    · refine ⟨_, rfl, q, _, 3, rfl, by decide, by decide, L7.go.pen, by omega, fun d H8 d0 d1 g8 => ?_⟩
      have L8 := L7.step nlp g8
      have k8 := k7.kp g8.kp
      refine ⟨rfl, _, rfl, ite2 (fun _ => ?_) (fun _ => ?_)⟩
      · refine fun W1 hW1 => ⟨_, rfl, q, _, 8, rfl, by decide, by decide, L8.go.pen.same (same_new hW1), by omega, fun e H9 e0 e1 g9 => ?_⟩
        have nW1 : H W1 = none := L8.go.none pn hW1
        have W1F : W1 ≠ F := fun z => by rw [z, L8.hF] at hW1; cases hW1
        have L9 := (L8.same (same_new (o := .dK []) hW1)).step nlp g9
        have w9 : H9 W1 = some (.dK []) := g9.kp _ _ (.inr fun l e => by cases e) upd_same
        refine ⟨w9, [(.inl e, .bl true)], rfl, (by simp), ?_⟩
        exact ⟨W1, [e], v6, rfl, (L9.mut pn w9 W1F nW1).mono (by omega), ⟨_, upd_same, rfl⟩, by simp, by simp, fun z hz => by rw [List.mem_singleton.mp hz]; exact ⟨e0, e1⟩, Nat.le_refl _, nW1, W1F⟩
      · exact ⟨W0, _, v6, rfl, L8.mono (by omega), k8, by simp, by simp, fun z hz => by rw [List.mem_singleton.mp hz]; exact cz, Nat.le_refl _, nW0, W0F⟩
    clear L7 k7 nW0 W0F
    rintro σ' H8 ⟨W, kk, v6, rfl, L8, k8, knd8, kne8, krg8, kl8, nW, WF⟩
    refine ⟨_, rfl, q, _, 3, rfl, by decide, by decide, L8.go.pen, by omega, fun d H9 d0 d1 g9 => ⟨_, rfl, by omega, by omega, ?_⟩⟩
    have L9 := L8.step nlp g9
    have k9 := k8.kp g9.kp
    refine for_range (lo := 0) (fun j σ' H' => ∃ kk v6, σ' = [some (.ref q.p), some (.ref a), some (.ref ct), some (.ref F), some (.int ((ks[i] : Nat) : Int)), some (.ref W), v6] ∧ PL q (m + 151 + 10 * i + 3 + j) H ct l F cc ks rows ps H' ∧ KeyV H' W kk ∧ kk.Nodup ∧ kk ≠ [] ∧ (∀ z ∈ kk, 0 ≤ z ∧ z < 8) ∧ kk.length ≤ 1 + j) ?_ ?_ ?_
    · exact ⟨kk, v6, rfl, L9.mono (by omega), k9, knd8, kne8, krg8, kl8⟩
    · rintro j σ' H10 hj ⟨kk, v6, rfl, L10, k10, knd, kne, krg, kl⟩
      refine ⟨_, rfl, _, rfl, q, _, 8, rfl, by decide, by decide, L10.go.pen, by omega, fun e H11 e0 e1 g11 => ?_⟩
      have L11 := L10.step nlp g11
      obtain ⟨wr, hW11, wk⟩ := k10.kp g11.kp
      have wl : wr.length = kk.length := by rw [← List.length_map (as := wr) (f := (·.1)), wk, List.length_map]
      obtain ⟨kk', p1, p2, p3, p4⟩ := putK_keys wk e (.bl true)
      refine ⟨W, _, rfl, DPut.k (k := .inl e) hW11 (szl (by omega)), ?_⟩
      refine ⟨kk', _, rfl, (L11.mut pn hW11 WF nW).mono (by omega), ⟨_, upd_same, p1⟩, p2 knd, fun z => ?_, fun z hz => ?_, by omega⟩
      · have := (p3 e).mpr (.inr rfl)
        rw [z] at this
        cases this
      · rcases (p3 z).mp hz with h | rfl
        · exact krg z h
        · exact ⟨e0, e1⟩
    · rintro σ' H10 ⟨kk, v6, rfl, L10, ⟨wr, hW10, wk⟩, knd, kne, krg, kl⟩
      refine ⟨_, rfl, W, wr, kk, rfl, .inl hW10, wk, by omega, fun ys p perm asc np => ?_⟩
      refine ⟨p, _, rfl, .inl upd_same, fun t H11 s11 h11 => ?_⟩
      have L11 := (L10.same (same_new np)).same s11
      have ynd : ys.Nodup := perm.nodup_iff.mpr knd
      have ki_new : (Sum.inl ((ks[i] : Nat) : Int) : L2.Key) ∉ rows.map (·.1) := fun mm => by
        have er := rows_keys L11.pr
        rw [er] at mm
        obtain ⟨p, hp, e⟩ := List.mem_map.mp mm
        have e1 : p.1 = ks[i] := by injection e; omega
        have mk : ks[i] ∈ ks.take i := by rw [← pk, ← e1]; exact List.mem_map.mpr ⟨p, hp, rfl⟩
        obtain ⟨x, hx⟩ := List.mem_iff_getElem?.mp mk
        rw [List.getElem?_take] at hx
        by_cases c : x < i
        · rw [if_pos c] at hx
          obtain ⟨xl, hx2⟩ := List.getElem?_eq_some_iff.mp hx
          exact List.pairwise_iff_getElem.mp knd0 x i xl il c hx2
        · rw [if_neg c] at hx
          cases hx
      have rl := paired_len L11.pr
      have pl : ps.length ≤ 4 := by
        rw [← List.length_map (as := ps) (f := (·.1)), pk, List.length_take]
        omega
      refine ⟨_, rfl, _, rfl, F, _, rfl, DPut.k (k := .inl ((ks[i] : Nat) : Int)) L11.hF (szl (by omega)), ?_⟩
      rw [putK_snoc ki_new]
      have FW : ∀ {b : Addr} {u : HO}, H11 b = some u → (∀ r, u ≠ .dK r) → b ≠ F := fun e ne z => by
        rw [z, L11.hF] at e
        exact ne _ (Option.some.inj e).symm
      have tk : ks.take (i + 1) = ks.take i ++ [ks[i]] := by rw [List.take_add_one, List.getElem?_eq_getElem il]; rfl
      refine ⟨_, _, _, rows ++ [(.inl ((ks[i] : Nat) : Int), .ref t)], ps ++ [(ks[i], ys)], rfl, (Go.mut pn nF L11.go).mono (by omega), by rw [upd_ne (FW L11.hc (fun r z => by cases z))]; exact L11.hc, by rw [upd_ne (FW L11.hl (fun r z => by cases z))]; exact L11.hl, upd_same, ?_, ?_, ?_, ?_, ?_⟩
      · exact paired_app (rows_upd L11.hF (fun l z => by cases z) L11.pr) (.cons ⟨rfl, t, rfl, by rw [upd_ne (FW h11 (fun r z => by cases z))]; exact h11⟩ .nil)
      · rw [List.map_append, pk, tk]
        rfl
      · intro p hp
        rcases List.mem_append.mp hp with hp | hp
        · exact pn1 p hp
        · rw [List.mem_singleton.mp hp]
          intro z
          have z' : ys = [] := z
          rw [z'] at perm
          exact kne (List.Perm.nil_eq perm).symm
      · intro p hp
        rcases List.mem_append.mp hp with hp | hp
        · exact pa p hp
        · rw [List.mem_singleton.mp hp]
          exact List.Pairwise.imp₂ (fun a b (h1 : a ≤ b) (h2 : a ≠ b) => by omega) asc ynd
      · intro p hp
        rcases List.mem_append.mp hp with hp | hp
        · exact pg p hp
        · rw [List.mem_singleton.mp hp]
          intro z hz
          exact krg z (perm.mem_iff.mp hz)
  · rintro σ' H6 ⟨v4, v5, v6, rows, ps, rfl, g6, hc6, hl6, hF6, pr, pk, pn1, pa, pg⟩
    rw [nvs_len, List.take_length] at pk
    have pl : ps.length ≤ 4 := by rw [← List.length_map (as := ps) (f := (·.1)), pk]; exact kl
    have il4 : (nvs ks).length ≤ 4 := by rw [nvs_len]; exact kl
    refine ⟨_, rfl, k F H6 ps (g6.mono (by omega)) nF ⟨rows, hF6, pr⟩ ⟨by rw [pk]; exact knd0, fun p hp => ?_, pn1, pa, pg⟩ pl⟩
    exact kb _ (by rw [← pk]; exact List.mem_map.mpr ⟨p, hp, rfl⟩)
end
end Af

set_option Elab.async false
set_option linter.all false
set_option maxRecDepth 100000
namespace Af
open PySem PySem.Spec PyProof.Rows L2
/-! x(e, .., *y), x a def of the text -/
section
variable {X : Cx} {k j : Nat} {x : Str} {ps : List Str} {sp : Sp} {e : Expr} {es : List Expr} {t : TA} {p pos : Pos}
theorem pe_calS (c : Cal X.prog X.w X.K X.mg X.base k x ps sp) (hr : Room j X.A) (ha : PA X (e :: es) t) (hkj : k ≤ j := by decide) (hg : Gl X x := by rfl) (hdb : (x == ("__debug__" : Str)) = false := by decide)
    (he : starEach (e :: es) X.env = (false, eval e X.env) :: starEach es X.env := by rfl) (hst : (backTo pos (starEach es X.env)).any (·.1) = true := by rfl) :
    PE X (.Call (.Name x p) (e :: es) [] pos) (tCal sp t) := by
  obtain ⟨f, fd, G, m, kp, b⟩ := c.ex
  have F := G.raw b (.nil : Vals [] [])
  have := StX.pe_callS2 (pos := pos) (p := p) (E := E0) F (hr.mono hkj) kp hg m pass0 ha hdb he hst
  refine ⟨fun pins s σ H Q I h => this.run pins s σ H Q I ?_⟩
  have e1 : (fun vs H Q E => sp (vs ++ []) H Q E) = sp := by
    funext vs H Q E
    rw [List.append_nil]
  show t σ H fun vs H1 => sp (vs ++ []) H1 Q E0
  simp only [List.append_nil]
  exact h
end
end Af

set_option Elab.async false
set_option linter.all false
set_option maxRecDepth 100000
set_option maxHeartbeats 8000000
namespace Af
open PySem L2
abbrev s_are_guards : Stmt := top 36
abbrev N_are_guards : List Str := ["plan", "thing", "guard"]
theorem sc_are_guards : FnScope N_are_guards ["plan", "thing"] (defScope s_are_guards) := ⟨rfl, rfl, rfl, by decide +kernel, rfl, by decide +kernel, by decide +kernel⟩

abbrev s_check_guards : Stmt := top 37
abbrev N_check_guards : List Str := ["plan", "guards"]
theorem sc_check_guards : FnScope N_check_guards ["plan", "guards"] (defScope s_check_guards) := ⟨rfl, rfl, rfl, by decide +kernel, rfl, by decide +kernel, by decide +kernel⟩

abbrev s_does_harm : Stmt := top 39
abbrev N_does_harm : List Str := ["plan", "guards", "guard", "fall"]
theorem sc_does_harm : FnScope N_does_harm ["plan", "guards", "guard", "fall"] (defScope s_does_harm) := ⟨rfl, rfl, rfl, by decide +kernel, rfl, by decide +kernel, by decide +kernel⟩

abbrev s_is_harm : Stmt := top 38
abbrev N_is_harm : List Str := ["plan", "guards", "thing"]
theorem sc_is_harm : FnScope N_is_harm ["plan", "guards", "thing"] (defScope s_is_harm) := ⟨rfl, rfl, rfl, by decide +kernel, rfl, by decide +kernel, by decide +kernel⟩

abbrev s_l_is_harm : Stmt := top 61
abbrev N_l_is_harm : List Str := ["_law_plan_here", "_law_guards_here", "_law_thing"]
theorem sc_l_is_harm : FnScope N_l_is_harm ["_law_plan_here", "_law_guards_here", "_law_thing"] (defScope s_l_is_harm) := ⟨rfl, rfl, rfl, by decide +kernel, rfl, by decide +kernel, by decide +kernel⟩

/-! lists of numbers among data -/
def numX : PyData → Nat
  | .int i => i.toNat
  | _ => 0
def numsX : PyData → List Nat
  | .list ds => ds.map numX
  | _ => []
def fallX (es : List Int) : PyData → Bool
  | .list ds => ds.all (idxD es.length) && lawB es (ds.map numX)
  | _ => false
theorem toN_dx {K : PySem.W.Frag} {H : Hp} {x : V} {d : PyData} (h : Dx K H x d) : toN x = numX d := by cases h <;> rfl
theorem toNs_dx {K : PySem.W.Frag} {H : Hp} : ∀ {xs : List V} {ds : List PyData}, DxAll K H xs ds → xs.map toN = ds.map numX
  | _, _, .nil => rfl
  | _, _, .cons r t => by rw [List.map_cons, List.map_cons, toN_dx r, toNs_dx t]
theorem law_dx {K : PySem.W.Frag} {H : Hp} {es : List Int} {x : V} {d : PyData} (h : Dx K H x d) : lawV es H x = fallX es d := by
  cases h with
  | lst e t => rw [lawV_at e, dx_all t, toNs_dx t]; rfl
  | tup e t => unfold lawV; simp only [e]; rfl
  | dic e t => unfold lawV; simp only [e]; rfl
  | _ => rfl
theorem fall_law {K : PySem.W.Frag} {H : Hp} {es : List Int} {x : V} {d : PyData} (up : ∀ i j, i ≤ j → j < es.length → gE es i ≤ gE es j) (h : Dx K H x d) : fallV es H x = lawV es H x := by
  cases h with
  | lst e t =>
    rw [fallV_at e, lawV_at e]
    cases c : List.all _ (idxB es.length) with
    | false => rfl
    | true => rw [Bool.true_and, Bool.true_and, falls_same up (idx_all c).2]
  | tup e t => unfold fallV lawV; simp only [e]
  | dic e t => unfold fallV lawV; simp only [e]
  | _ => rfl
/-- a fall among data -/
theorem fall_out {K : PySem.W.Frag} {H : Hp} {es : List Int} {x : V} {d : PyData} (q : Dx K H x d) (h : fallX es d = true) : ∃ b, x = .ref b ∧ H b = some (.lst (nvs (numsX d))) ∧ (∀ p ∈ numsX d, p < es.length) ∧ lawB es (numsX d) = true := by
  cases q with
  | @lst a xs ds e t =>
    have h' : (ds.all (idxD es.length) && lawB es (ds.map numX)) = true := h
    rw [Bool.and_eq_true] at h'
    have h1 : xs.all (idxB es.length) = true := by rw [dx_all t]; exact h'.1
    obtain ⟨e1, b⟩ := idx_all h1
    rw [toNs_dx t] at e1 b
    exact ⟨a, rfl, by rw [e, e1]; rfl, b, h'.2⟩
  | _ => cases h
theorem allP_up {w : Int} : ∀ (l : List Stp) (i : Nat), (allP w i l).Pairwise fun p p' => p.1 ≤ p'.1
  | [], _ => .nil
  | a :: l, i => by
    show (oneP w i a ++ allP w (i + 1) l).Pairwise _
    have one : ∀ p ∈ oneP w i a, p.1 = (i : Int) := fun p hp => by
      cases a with
      | none => cases hp
      | some fw =>
        obtain ⟨f, ws⟩ := fw
        obtain ⟨y, hy, rfl⟩ := List.mem_map.mp hp
        rfl
    refine List.pairwise_append.mpr ⟨?_, allP_up l (i + 1), fun p hp p' hp' => ?_⟩
    · refine List.pairwise_iff_getElem.mpr fun x y hx hy _ => ?_
      rw [one _ (List.getElem_mem hx), one _ (List.getElem_mem hy)]
      exact Int.le_refl _
    · obtain ⟨j, hj1, hj2, _⟩ := allP_in hp'
      rw [one p hp, hj1]
      omega
theorem bars_up (l : List Stp) {a b : Nat} (h : a ≤ b) : bars (l.take a) ≤ bars (l.take b) := by
  unfold bars
  have : l.take a = (l.take b).take a := by rw [List.take_take, Nat.min_eq_left h]
  rw [this]
  exact (List.take_sublist _ _).countP_le
theorem rkP_up (pl : Pl) : ∀ i j, i ≤ j → j < (rkP pl).length → gE (rkP pl) i ≤ gE (rkP pl) j := fun i j ij hj => by
  have hi : i < (rkP pl).length := by omega
  unfold gE
  rw [List.getD_eq_getElem?_getD, List.getD_eq_getElem?_getD, List.getElem?_eq_getElem hi, List.getElem?_eq_getElem hj]
  show (rkP pl)[i] ≤ (rkP pl)[j]
  have pw : (rkP pl).Pairwise (· ≤ ·) := by
    unfold rkP rnk
    refine List.pairwise_map.mpr ((allP_up pl.sts 0).imp fun {p p'} h => ?_)
    have := bars_up pl.sts (a := p.1.toNat) (b := p'.1.toNat) (by omega)
    omega
  rcases Nat.lt_or_ge i j with d | d
  · exact List.pairwise_iff_getElem.mp pw i j hi hj d
  · have e : i = j := by omega
    subst e
    exact Int.le_refl _
/-- guards -/
def PatE (H : Hp) (x : V) (ps : Ptn) : Prop := ∃ a, x = .ref a ∧ PatV H a ps
structure GdV (H : Hp) (ga : Addr) (n : Nat) (gs : List Ptn) : Prop where
  ex : ∃ xs, H ga = some (.lst xs) ∧ Paired (PatE H) xs gs
  ok : ∀ ps ∈ gs, OkPt n ps ∧ ps.length ≤ 24
  l : gs.length ≤ 99
theorem PatE.same {H H' : Hp} {x : V} {ps : Ptn} (s : Same H H') (h : PatE H x ps) : PatE H' x ps := by
  obtain ⟨a, e, h⟩ := h
  exact ⟨a, e, h.same s⟩
theorem PatE.kp {p : Addr} {H H' : Hp} {x : V} {ps : Ptn} (k : Kp p H H') (h : PatE H x ps) : PatE H' x ps := by
  obtain ⟨a, e, h⟩ := h
  exact ⟨a, e, h.kp k⟩
theorem GdV.same {H H' : Hp} {ga : Addr} {n : Nat} {gs : List Ptn} (h : GdV H ga n gs) (s : Same H H') : GdV H' ga n gs := by
  obtain ⟨xs, h1, h2⟩ := h.ex
  exact ⟨⟨xs, s _ _ h1, L2.Paired.mapP h2 fun _ _ z => z.same s⟩, h.ok, h.l⟩
theorem GdV.kp {p : Addr} {H H' : Hp} {ga : Addr} {n : Nat} {gs : List Ptn} (h : GdV H ga n gs) (k : Kp p H H') (ne : ga ≠ p) : GdV H' ga n gs := by
  obtain ⟨xs, h1, h2⟩ := h.ex
  exact ⟨⟨xs, k.lst ne h1, L2.Paired.mapP h2 fun _ _ z => z.kp k⟩, h.ok, h.l⟩
theorem GdV.at {H : Hp} {ga : Addr} {n : Nat} {gs : List Ptn} (h : GdV H ga n gs) : ∃ xs, H ga = some (.lst xs) ∧ xs.length = gs.length ∧ ∀ i (hi : i < gs.length), ∃ a, xs[i]? = some (.ref a) ∧ PatV H a gs[i] ∧ OkPt n gs[i] ∧ gs[i].length ≤ 24 := by
  obtain ⟨xs, h1, h2⟩ := h.ex
  have l := paired_len h2
  refine ⟨xs, h1, l, fun i hi => ?_⟩
  have il : i < xs.length := by omega
  obtain ⟨ps, e, a, e2, pv⟩ := paired_get h2 (List.getElem?_eq_getElem il)
  rw [List.getElem?_eq_getElem hi] at e
  cases e
  obtain ⟨o, l24⟩ := h.ok _ (List.getElem_mem hi)
  exact ⟨a, by rw [List.getElem?_eq_getElem il, e2], pv, o, l24⟩
/-- what does harm -/
def dhB (pl : Pl) (gs : List Ptn) (g f : PyData) : Bool := idxD gs.length g && (fallX (rkP pl) f && agB (gs.getD (numX g) []) (overF (allP pl.w 0 pl.sts) pl.cs (numsX f)))
def harmB (pl : Pl) (gs : List Ptn) : PyData → Bool
  | .tuple ds => (match ds with
    | [g, f] => dhB pl gs g f
    | _ => false)
  | _ => false
def SzF (d : PyData) : Prop := ∀ zs, d = .list zs ∨ d = .tuple zs → zs.length ≤ 60
def SzH (d : PyData) : Prop := ∀ ds, d = .tuple ds → ds.length ≤ 1000 ∧ ∀ y ∈ ds, SzF y
theorem ob_dx {K : PySem.W.Frag} {H : Hp} {x : V} {d : PyData} (h : Dx K H x d) (s : SzF d) : Ob K H x := by
  refine ⟨dx_th1 h fun ds e => Nat.le_trans (s ds e.symm) (by decide), fun a xs e hx => ?_⟩
  subst e
  cases h with
  | lst e t => rw [e] at hx; cases hx; rw [t.len]; exact Nat.le_trans (s _ (.inl rfl)) (by decide)
  | tup e t => rw [e] at hx; cases hx
  | dic e t => rw [e] at hx; cases hx
theorem dx_tup_or {K : PySem.W.Frag} {H : Hp} {x : V} {d : PyData} (h : Dx K H x d) : (∃ a xs ds, x = .ref a ∧ H a = some (.tup xs) ∧ d = .tuple ds ∧ DxAll K H xs ds) ∨ (∃ n, Ty K H x n ∧ isB n "tuple" = false ∧ ∀ ds, d ≠ .tuple ds) := by
  cases h with
  | non => exact .inr ⟨_, ⟨.non, by decide, fun _ _ _ e => by cases e⟩, by decide, fun _ e => by cases e⟩
  | bl b => exact .inr ⟨_, ⟨.bl b, by decide, fun _ _ _ e => by cases e⟩, by decide, fun _ e => by cases e⟩
  | int i => exact .inr ⟨_, ⟨.int i, by decide, fun _ _ _ e => by cases e⟩, by decide, fun _ e => by cases e⟩
  | str z => exact .inr ⟨_, ⟨.str z, by decide, fun _ _ _ e => by cases e⟩, by decide, fun _ e => by cases e⟩
  | lst e t => exact .inr ⟨_, ⟨.lst e, by decide, fun b o u z q => by cases z; rw [e] at q; cases q⟩, by decide, fun _ e => by cases e⟩
  | tup e t => exact .inl ⟨_, _, _, rfl, e, rfl, t⟩
  | dic e t => exact .inr ⟨_, ⟨.dK e, by decide, fun b o u z q => by cases z; rw [e] at q; cases q⟩, by decide, fun _ e => by cases e⟩
theorem ty_tX {K : PySem.W.Frag} {H : Hp} {a : Addr} {xs : List V} (h : H a = some (.tup xs)) : Ty K H (.ref a) "tuple" := ⟨.tup h, by decide, fun b o u e z => by cases e; rw [h] at z; cases z⟩
theorem ty_lX {K : PySem.W.Frag} {H : Hp} {a : Addr} {xs : List V} (h : H a = some (.lst xs)) : Ty K H (.ref a) "list" := ⟨.lst h, by decide, fun b o u e z => by cases e; rw [h] at z; cases z⟩
theorem two_of {K : PySem.W.Frag} {H : Hp} {xs : List V} {ds : List PyData} (t : DxAll K H xs ds) (l : ds.length = 2) : ∃ x1 x2 d1 d2, xs = [x1, x2] ∧ ds = [d1, d2] ∧ Dx K H x1 d1 ∧ Dx K H x2 d2 := by
  match ds, t, l with
  | [d1, d2], .cons r1 (.cons r2 .nil), _ => exact ⟨_, _, _, _, rfl, rfl, r1, r2⟩
def sp_check_guards (C : Addr) : Sp := fun vs H Q _ => ∃ (x : V) (pl : Pl) (sl ql el ga : Addr) (gs : List Ptn), vs = [x, .ref ga] ∧ PlanF C H x pl sl ql el ∧ GdV H ga pl.cs.length gs ∧ ∀ H', Same H H' → Q .non H'
def sp_are_guards (C : Addr) : Sp := fun vs H Q _ => ∃ (x : V) (pl : Pl) (sl ql el ga : Addr) (gs : List Ptn), vs = [x, .ref ga] ∧ PlanF C H x pl sl ql el ∧ GdV H ga pl.cs.length gs ∧ ∀ H', Same H H' → Q (.bl true) H'
def sp_does_harm (K : PySem.W.Frag) (C : Addr) : Sp := fun vs H Q _ => ∃ (x : V) (pl : Pl) (sl ql el ga : Addr) (gs : List Ptn) (g f : V) (dg df : PyData), vs = [x, .ref ga, g, f] ∧ PlanF C H x pl sl ql el ∧ GdV H ga pl.cs.length gs ∧ Dx K H g dg ∧ Dx K H f df ∧ SzF df ∧ ∀ H', Same H H' → Q (.bl (dhB pl gs dg df)) H'
def sp_is_harm (K : PySem.W.Frag) (C : Addr) : Sp := fun vs H Q _ => ∃ (x : V) (pl : Pl) (sl ql el ga : Addr) (gs : List Ptn) (v : V) (d : PyData), vs = [x, .ref ga, v] ∧ PlanF C H x pl sl ql el ∧ GdV H ga pl.cs.length gs ∧ Dx K H v d ∧ SzH d ∧ ∀ H', Same H H' → Q (.bl (harmB pl gs d)) H'
def sp_lis_harm (K : PySem.W.Frag) (p : Addr → Prop) : Sp := fun vs H Q _ => ∃ (q a : Addr) (pl : Pl) (ga : Addr) (gs : List Ptn) (v : V) (d : PyData), vs = [.ref a, .ref ga, v] ∧ PlanV q H (.ref a) pl ∧ OkP pl ∧ GdV H ga pl.cs.length gs ∧ Dx K H v d ∧ SzH d ∧ ∀ H', Same H H' → Q (.bl (harmB pl gs d)) H'
section
variable {P : Program} {w : World} {K : PySem.W.Frag} {mg : Str → Option Value} {base : Heap}
theorem ok_are_guards {f C : Addr} {fd : FuncData} (F : Fun K "are_guards" "are_guards" s_are_guards f fd) (T : Txt mg) (TC : PlanC K mg C) (mostG : ∃ t, mg "MOST_GUARDS" = some (.int 99 t)) (P_base : PropC P w K mg base C "base" (sp_p_base C)) (c_is_pattern : Cal P w K mg base 5 "is_pattern" ["cells", "thing"] (sp_is_pattern K)) :
    FnOk P w K mg base CX0 6 f fd ["plan", "thing"] (sp_are_guards C) := by
  refine F.ok sc_are_guards (fun vs H Q E h => ?_) (fun cdv A outer s H vs Q E hr h => ?_)
  · obtain ⟨_, _, _, _, _, _, _, rfl, _⟩ := h
    rfl
  obtain ⟨x, pl, sl, ql, el, ga, gs, rfl, pF, G, k⟩ := h
  obtain ⟨tg, c_MOST_GUARDS⟩ := mostG
  refine ⟨_, (pss_cons (ps_cut (ps_if (PW.pt (pw_or (pt_not (pt_val (pe_callB call_isi' (by rfl) T.isinstance (by decide +kernel) (pa_cons (pv 1) (pa_cons (pe_bltn (v := .ty "list") (by rfl) T.list (by decide +kernel) rfl) pa_nil))))) (pw_or1 (pt_cmpR op_gt (pe_callB call_len' (by rfl) T.len (by decide +kernel) (pa_cons (pv 1) pa_nil)) (pe_glob (v := .int 99) rfl c_MOST_GUARDS ⟨_, rfl⟩) (nomark _)))))
      (pss_one (ps_ret pe_bl))
      pss_nil))
    (pss_one (ps_ret (pe_callB (cr_all rfl) (by rfl) T.all (by decide +kernel) (pa_cons (pe_lc (own := [("guard", 2)]) (g := (gName 2)) (tt := tYes) rfl sc_are_guards.nd (pi_list (pv 1)) (blkOk_by (own := [("guard", 2)]) (N := N_are_guards) (sc := defScope s_are_guards) (by decide +kernel)) (fun _ _ _ _ _ => pg_name (i := 2) sc_are_guards.nd rfl (Or.inl rfl)) (fun _ _ _ _ _ => pts_nil) (fun _ _ _ _ _ => (pe_cal c_is_pattern hr (pa_cons (pe_callB call_len' (by rfl) T.len (by decide +kernel) (pa_cons (pe_propC TC.cl P_base hr (pv 0)) pa_nil)) (pa_cons (pv 2) pa_nil))))) pa_nil))))), ?_⟩
  obtain ⟨xs, hg, xl, at_⟩ := G.at
  have l99 := G.l
  refine ⟨fun σ' H' => σ' = [some x, some (.ref ga), none] ∧ H = H', ?_, ?_⟩
  · refine ⟨_, rfl, _, "list", "list", rfl, ty_lX hg, by decide, _, rfl, ?_⟩
    rw [show isB "list" "list" = true by decide]
    refine iteF ⟨_, rfl, ga, _, rfl, .inl hg, _, _, rfl, rfl, _, rfl, ite2 (fun z => ?_) (fun _ => ⟨rfl, rfl⟩)⟩
    have := of_decide_eq_true z
    omega
  rintro _ _ ⟨rfl, rfl⟩
  obtain ⟨pa, ca, xs0, ys0, rfl, pX, hca, _, _⟩ := pF.ex
  obtain ⟨dx, fs, hx, _⟩ := pX.px
  refine ⟨_, rfl, ga, rfl, ⟨_, SqL.of hg⟩, fun D hD => lc_list (K := K) (a := ga) (xs := xs) (fun i H' => Same H H' ∧ H' D = some (.lst ((List.replicate i true).map V.bl))) ?_ ?_ ?_ ?_⟩
  · exact ⟨same_new hD, upd_same⟩
  · rintro i H' _ ⟨s1, _⟩
    exact SqL.of (s1 _ _ hg)
  · rintro i y H' hy ⟨s1, h1⟩
    have il : i < gs.length := by have := (List.getElem?_eq_some_iff.mp hy).1; omega
    obtain ⟨b, e, pv, o, l24⟩ := at_ i il
    rw [hy] at e
    cases e
    refine ⟨rfl, _, rfl, pa, dx, fs, rfl, s1 _ _ hx, pa, ca, sl, ql, el, pl, xs0, ys0, rfl, pX.same s1, ca, _, rfl, .inr (s1 _ _ hca), ?_⟩
    rw [ivs_len]
    refine ⟨_, rfl, _, .ref b, _, rfl, dx_pat (pv.same s1), pat_sz o (by omega), fun H2 s2 => ?_⟩
    rw [pat_ok o]
    refine ⟨_, s2 _ _ h1, szl (by rw [List.length_map, List.length_replicate]; omega), same_mut (s1.trans s2) hD, ?_⟩
    rw [upd_same, List.replicate_succ', List.map_append]
    rfl
  · rintro H1 ⟨s1, h1⟩
    refine ⟨D, _, rfl, SqL.of h1, ?_⟩
    rw [show (List.replicate xs.length true).all id = true by simp]
    exact k H1 s1
theorem ok_check_guards {f C : Addr} {fd : FuncData} (F : Fun K "check_guards" "check_guards" s_check_guards f fd) (T : Txt mg) (c_are_guards : Cal P w K mg base 6 "are_guards" ["plan", "thing"] (sp_are_guards C)) : FnOk P w K mg base CX0 7 f fd ["plan", "guards"] (sp_check_guards C) := by
  refine F.ok sc_check_guards (fun vs H Q E h => ?_) (fun cdv A outer s H vs Q E hr h => ?_)
  · obtain ⟨_, _, _, _, _, _, _, rfl, _⟩ := h
    rfl
  obtain ⟨x, pl, sl, ql, el, ga, gs, rfl, pF, G, k⟩ := h
  refine ⟨_, (pss_one (ps_if (pt_not (pt_val (pe_cal c_are_guards hr (pa_cons (pv 0) (pa_cons (pv 1) pa_nil)))))
      (pss_one ps_never)
      pss_nil)), ?_⟩
  exact ⟨_, rfl, _, rfl, x, pl, sl, ql, el, ga, gs, rfl, pF, G, fun H1 s1 => ⟨_, rfl, iteF (k H1 s1)⟩⟩
theorem dx_num {K : PySem.W.Frag} {H : Hp} {n : Nat} {x : V} {d : PyData} (q : Dx K H x d) (h : idxD n d = true) : x = .int ((numX d : Nat) : Int) ∧ numX d < n := by
  obtain ⟨e, h0, h1⟩ := dx_int q h
  cases q with
  | int i =>
    have h0 : 0 ≤ i := h0
    have h1 : i < (n : Int) := h1
    refine ⟨?_, ?_⟩
    · show V.int i = V.int ((i.toNat : Nat) : Int)
      rw [Int.toNat_of_nonneg h0]
    · show i.toNat < n
      omega
  | _ => cases h
theorem gets {gs : List Ptn} {i : Nat} (h : i < gs.length) : gs.getD i [] = gs[i] := by
  rw [List.getD_eq_getElem?_getD, List.getElem?_eq_getElem h]
  rfl
theorem ok_does_harm {f C : Addr} {fd : FuncData} (F : Fun K "does_harm" "does_harm" s_does_harm f fd) (T : Txt mg) (c_is_index : Cal P w K mg base 2 "is_index" ["thing", "many"] (sp_is_index K)) (c_is_fall : Cal P w K mg base 5 "is_fall" ["plan", "thing"] (sp_is_fall K C))
    (c_agrees : Cal P w K mg base 1 "agrees" ["pattern", "content"] sp_agrees) (c_overwritten : Cal P w K mg base 3 "overwritten" ["plan", "fall"] (sp_over C)) : FnOk P w K mg base CX0 6 f fd ["plan", "guards", "guard", "fall"] (sp_does_harm K C) := by
  refine F.ok sc_does_harm (fun vs H Q E h => ?_) (fun cdv A outer s H vs Q E hr h => ?_)
  · obtain ⟨_, _, _, _, _, _, _, _, _, _, _, rfl, _⟩ := h
    rfl
  obtain ⟨x, pl, sl, ql, el, ga, gs, g, f, dg, df, rfl, pF, G, qg, qf, sf, k⟩ := h
  obtain ⟨xs, hg, xl, at_⟩ := G.at
  refine ⟨_, (pss_cons (ps_cut (ps_if (PW.pt (pw_or (pt_not (pt_val (pe_cal c_is_index hr (pa_cons (pv 2) (pa_cons (pe_callB call_len' (by rfl) T.len (by decide +kernel) (pa_cons (pv 1) pa_nil)) pa_nil))))) (pw_or1 (pt_not (pt_val (pe_cal c_is_fall hr (pa_cons (pv 0) (pa_cons (pv 3) pa_nil))))))))
      (pss_one (ps_ret pe_bl))
      pss_nil))
    (pss_one (ps_ret (pe_cal c_agrees hr (pa_cons (pe_ix ix_seq' (pv 1) (pv 2) (fun _ _ => rfl)) (pa_cons (pe_cal c_overwritten hr (pa_cons (pv 0) (pa_cons (pv 3) pa_nil))) pa_nil)))))), ?_⟩
  have opc := pF.ok.pc
  have r40 : (rkP pl).length ≤ 40 := by rw [rkP_len]; exact opc
  unfold dhB at k
  obtain ⟨tn, ty⟩ := dx_ty qg
  refine ⟨fun σ' H' => σ' = [some x, some (.ref ga), some g, some f] ∧ Same H H' ∧ idxD gs.length dg = true ∧ fallX (rkP pl) df = true, ?_, ?_⟩
  · refine ⟨_, rfl, _, rfl, ga, _, rfl, .inl hg, ?_⟩
    rw [xl]
    refine ⟨g, _, tn, rfl, ty, ?_⟩
    rw [dx_idx qg]
    refine ⟨_, rfl, ?_⟩
    cases c1 : idxD gs.length dg with
    | false =>
      rw [c1] at k
      exact iteT (k H (Same.refl _))
    | true =>
      rw [c1, Bool.true_and] at k
      refine iteF ⟨_, rfl, _, rfl, x, f, pl, sl, ql, el, rfl, pF, ob_dx qf sf, fun H1 s1 => ?_⟩
      rw [fall_law (rkP_up pl) qf, law_dx qf]
      refine ⟨_, rfl, ?_⟩
      cases c2 : fallX (rkP pl) df with
      | false =>
        rw [c2] at k
        exact iteT (k H1 s1)
      | true => exact iteF ⟨rfl, s1, rfl, rfl⟩
  rintro _ H1 ⟨rfl, s1, c1, c2⟩
  rw [c1, c2, Bool.true_and, Bool.true_and] at k
  obtain ⟨rfl, gl⟩ := dx_num qg c1
  obtain ⟨b, rfl, hb, lb, lw⟩ := fall_out qf c2
  obtain ⟨pa, e, pv, o, l24⟩ := at_ _ gl
  rw [gets gl] at k
  have lbA : ∀ p ∈ numsX df, p < (allP pl.w 0 pl.sts).length := fun p hp => by have := lb p hp; rwa [rkP_len] at this
  have len := overF_len (allP_fit (w := pl.w) (i := 0) pF.ok.st) (numsX df) pl.cs rfl lbA
  have fl60 : (numsX df).length ≤ 60 := by
    cases df with
    | list zs => show (zs.map numX).length ≤ 60; rw [List.length_map]; exact sf zs (.inl rfl)
    | _ => exact Nat.zero_le _
  refine ⟨_, rfl, _, rfl, ga, _, _, _, rfl, rfl, .inl (s1 _ _ hg), atI_nat e, _, rfl, _, rfl, x, pl, sl, ql, el, b, numsX df, rfl, pF.same s1, s1 _ _ hb, lbA, fl60, fun c H2 s2 h2 => ?_⟩
  exact ⟨pa, c, pl.cs.length, _, _, rfl, pv.same (s1.trans s2), o, by omega, h2, by omega, fun H3 s3 => k H3 (s1.trans (s2.trans s3))⟩
theorem ok_is_harm {f C : Addr} {fd : FuncData} (F : Fun K "is_harm" "is_harm" s_is_harm f fd) (T : Txt mg) (c_check_guards : Cal P w K mg base 7 "check_guards" ["plan", "guards"] (sp_check_guards C)) (c_does_harm : Cal P w K mg base 6 "does_harm" ["plan", "guards", "guard", "fall"] (sp_does_harm K C)) :
    FnOk P w K mg base CX0 8 f fd ["plan", "guards", "thing"] (sp_is_harm K C) := by
  refine F.ok sc_is_harm (fun vs H Q E h => ?_) (fun cdv A outer s H vs Q E hr h => ?_)
  · obtain ⟨_, _, _, _, _, _, _, _, _, rfl, _⟩ := h
    rfl
  obtain ⟨x, pl, sl, ql, el, ga, gs, v, d, rfl, pF, G, q, sz0, k⟩ := h
  refine ⟨_, (pss_cons (ps_expr (pe_cal c_check_guards hr (pa_cons (pv 0) (pa_cons (pv 1) pa_nil))))
    (pss_cons (ps_cut (ps_if (PW.pt (pw_or (pt_not (pt_val (pe_callB call_isi' (by rfl) T.isinstance (by decide +kernel) (pa_cons (pv 2) (pa_cons (pe_bltn (v := .ty "tuple") (by rfl) T.tuple (by decide +kernel) rfl) pa_nil))))) (pw_or1 (pt_cmpR op_ne (pe_callB call_len' (by rfl) T.len (by decide +kernel) (pa_cons (pv 2) pa_nil)) pe_int (nomark _)))))
      (pss_one (ps_ret pe_bl))
      pss_nil))
    (pss_one (ps_ret (pe_calS c_does_harm hr (pa_cons (pv 0) (pa_cons (pv 1) (StX.pa_star (pv 2) pa_nil)))))))), ?_⟩
  refine ⟨_, rfl, _, rfl, x, pl, sl, ql, el, ga, gs, rfl, pF, G, fun H1 s1 => ?_⟩
  have G1 := G.same s1
  have q1 := Dx.same s1 q
  rcases dx_tup_or q1 with ⟨a, xs, ds, rfl, ha, rfl, dqs⟩ | ⟨tn, ty, no, nd⟩
  rotate_left
  · refine ⟨fun σ' H' => False, ?_, fun _ _ z => z.elim⟩
    refine ⟨_, rfl, v, tn, "tuple", rfl, ty, by decide, _, rfl, ?_⟩
    rw [no]
    have e : harmB pl gs d = false := by
      cases d with
      | tuple ds => exact absurd rfl (nd ds)
      | _ => rfl
    rw [e] at k
    exact iteT (k H1 s1)
  obtain ⟨len, small⟩ := sz0 ds rfl
  have xl := dqs.len
  refine ⟨fun σ' H' => σ' = [some x, some (.ref ga), some (.ref a)] ∧ H1 = H' ∧ ds.length = 2, ?_, ?_⟩
  · refine ⟨_, rfl, _, "tuple", "tuple", rfl, ty_tX ha, by decide, _, rfl, ?_⟩
    rw [show isB "tuple" "tuple" = true by decide]
    refine iteF ⟨_, rfl, a, _, rfl, .inr ha, rfl, _, rfl, ite2 (fun z => ?_) (fun z => ⟨rfl, rfl, ?_⟩)⟩
    · have l2 : ds.length ≠ 2 := fun e => by simp [xl, e] at z
      have e : harmB pl gs (.tuple ds) = false := by
        match ds, l2 with
        | [], _ => rfl
        | [_], _ => rfl
        | [_, _], l => exact absurd rfl l
        | _ :: _ :: _ :: _, _ => rfl
      rw [e] at k
      exact k H1 s1
    · simp [xl] at z
      omega
  rintro _ _ ⟨rfl, rfl, l2⟩
  obtain ⟨x1, x2, d1, d2, rfl, rfl, r1, r2⟩ := two_of dqs l2
  refine ⟨_, rfl, _, rfl, _, rfl, a, _, rfl, .inl (SqT.of ha), ?_⟩
  exact ⟨x, pl, sl, ql, el, ga, gs, x1, x2, d1, d2, rfl, pF.same s1, G1, r1, r2, small d2 (by simp), fun H2 s2 => k H2 (s1.trans s2)⟩
theorem ok_lis_harm {f : Addr} {fd : FuncData} (F : Fun K "_law_is_harm" "_law_is_harm" s_l_is_harm f fd) (T : Txt mg) (c_l_is_whole : Cal P w K mg base 1 "_law_is_whole" ["_law_thing", "_law_low", "_law_under"] (sp_whole K)) (c_l_is_fall : Cal P w K mg base 4 "_law_is_fall" ["_law_plan_here", "_law_thing"] (sp_lis_fall K))
    (c_l_is_met : Cal P w K mg base 1 "_law_is_met" ["_law_pattern_here", "_law_content_here"] sp_agrees) (c_l_left : Cal P w K mg base 3 "_law_left" ["_law_plan_here", "_law_some_here"] sp_left) : FnOk P w K mg base CX0 5 f fd ["_law_plan_here", "_law_guards_here", "_law_thing"] (sp_lis_harm K fun _ => True) := by
  refine F.ok sc_l_is_harm (fun vs H Q E h => ?_) (fun cdv A outer s H vs Q E hr h => ?_)
  · obtain ⟨_, _, _, _, _, _, _, rfl, _⟩ := h
    rfl
  obtain ⟨p, a, pl, ga, gs, v, d, rfl, pvl, good, G, q, sz0, k⟩ := h
  obtain ⟨a', ca, sa, xs, ea, ha, hca, _, hsa, hst⟩ := pvl.ex
  cases ea
  have o24 := good.c24
  have w0 : 0 < pl.w := by have := good.w1; omega
  have wl : ∀ f ws, some (f, ws) ∈ pl.sts → ws.length ≤ 100 := fun f ws hm => by
    obtain ⟨o1, _, o3, _⟩ := good.st _ hm
    omega
  have osl := good.sl
  have opc := good.pc
  have xl := paired_len hst
  obtain ⟨gxs, hg, gxl, at_⟩ := G.at
  refine ⟨_, (pss_cons (ps_cut (ps_if (PW.pt (pw_or (pt_not (pt_val (pe_callB call_isi' (by rfl) T.isinstance (by decide +kernel) (pa_cons (pv 2) (pa_cons (pe_bltn (v := .ty "tuple") (by rfl) T.tuple (by decide +kernel) rfl) pa_nil))))) (pw_or (pt_cmpR op_ne (pe_callB call_len' (by rfl) T.len (by decide +kernel) (pa_cons (pv 2) pa_nil)) pe_int (nomark _)) (pw_or1 (pt_not (pt_val (pe_cal c_l_is_whole hr (pa_cons (pe_ix ix_seq' (pv 2) pe_int (fun _ _ => rfl)) (pa_cons pe_int (pa_cons (pe_callB call_len' (by rfl) T.len (by decide +kernel) (pa_cons (pv 1) pa_nil)) pa_nil))))))))))
      (pss_one (ps_ret pe_bl))
      pss_nil))
    (pss_one (ps_ret (pe_and (pe_cal c_l_is_fall hr (pa_cons (pv 0) (pa_cons (pe_ix ix_seq' (pv 2) pe_int (fun _ _ => rfl)) pa_nil))) (pe_one (pe_cal c_l_is_met hr (pa_cons (pe_ix ix_seq' (pv 1) (pe_ix ix_seq' (pv 2) pe_int (fun _ _ => rfl)) (fun _ _ => rfl)) (pa_cons (pe_cal c_l_left hr (pa_cons (pv 0) (pa_cons (pe_ix ix_seq' (pv 2) pe_int (fun _ _ => rfl)) pa_nil))) pa_nil)))))))), ?_⟩
  rcases dx_tup_or q with ⟨t, ts, ds, rfl, ht, rfl, dqs⟩ | ⟨tn, ty, no, nd⟩
  rotate_left
  · refine ⟨fun σ' H' => False, ?_, fun _ _ z => z.elim⟩
    refine ⟨_, rfl, v, tn, "tuple", rfl, ty, by decide, _, rfl, ?_⟩
    rw [no]
    have e : harmB pl gs d = false := by
      cases d with
      | tuple ds => exact absurd rfl (nd ds)
      | _ => rfl
    rw [e] at k
    exact iteT (k H (Same.refl _))
  obtain ⟨len, small⟩ := sz0 ds rfl
  have tl := dqs.len
  have e0 : ∀ l : ds.length ≠ 2, harmB pl gs (.tuple ds) = false := fun l2 => by
    match ds, l2 with
    | [], _ => rfl
    | [_], _ => rfl
    | [_, _], l => exact absurd rfl l
    | _ :: _ :: _ :: _, _ => rfl
  refine ⟨fun σ' H' => ∃ x1 x2 d1 d2, ts = [x1, x2] ∧ ds = [d1, d2] ∧ Dx K H x1 d1 ∧ Dx K H x2 d2 ∧ idxD gs.length d1 = true ∧ σ' = [some (.ref a), some (.ref ga), some (.ref t)] ∧ H = H', ?_, ?_⟩
  · refine ⟨_, rfl, _, "tuple", "tuple", rfl, ty_tX ht, by decide, _, rfl, ?_⟩
    rw [show isB "tuple" "tuple" = true by decide]
    refine iteF ⟨_, rfl, t, _, rfl, .inr ht, rfl, _, rfl, ite2 (fun z => ?_) (fun z => ?_)⟩
    · have l2 : ds.length ≠ 2 := fun e => by simp [tl, e] at z
      rw [e0 l2] at k
      exact k H (Same.refl _)
    · have l2 : ds.length = 2 := by
        simp [tl] at z
        omega
      obtain ⟨x1, x2, d1, d2, rfl, rfl, r1, r2⟩ := two_of dqs l2
      obtain ⟨tn, ty⟩ := dx_ty r1
      refine ⟨_, rfl, t, _, _, _, rfl, rfl, .inr ht, rfl, _, rfl, ga, _, rfl, .inl hg, ?_⟩
      rw [gxl]
      refine ⟨x1, _, tn, rfl, ty, ?_⟩
      rw [dx_idx r1]
      refine ⟨_, rfl, ?_⟩
      cases c : idxD gs.length d1 with
      | false =>
        have e : harmB pl gs (.tuple [d1, d2]) = false := by
          show dhB pl gs d1 d2 = false
          unfold dhB
          rw [c]
          rfl
        rw [e] at k
        exact iteT (k H (Same.refl _))
      | true => exact iteF ⟨x1, x2, d1, d2, rfl, rfl, r1, r2, c, rfl, rfl⟩
  rintro _ _ ⟨x1, x2, d1, d2, rfl, rfl, r1, r2, c1, rfl, rfl⟩
  have k : ∀ H', Same H H' → Q (.bl (dhB pl gs d1 d2)) H' := k
  unfold dhB at k
  rw [c1, Bool.true_and] at k
  obtain ⟨rfl, gl⟩ := dx_num r1 c1
  refine ⟨_, rfl, _, rfl, t, _, _, _, rfl, rfl, .inr ht, rfl, a, ca, sa, pl.w, xs, pl.sts, x2, rfl, ha, hsa, hst, w0, by omega, wl, opc, ob_dx r2 (small d2 (by simp)), fun H1 s1 => ?_⟩
  rw [show lawV (rnk pl.sts (allP pl.w 0 pl.sts)) H x2 = fallX (rkP pl) d2 from law_dx r2]
  refine ⟨_, rfl, ?_⟩
  cases c2 : fallX (rkP pl) d2 with
  | false =>
    rw [c2] at k
    exact k H1 s1
  | true =>
    rw [c2, Bool.true_and] at k
    obtain ⟨b, rfl, hb, lb, lw⟩ := fall_out r2 c2
    obtain ⟨pa, e, pv', o, l24⟩ := at_ _ gl
    rw [gets gl] at k
    have lbA : ∀ p ∈ numsX d2, p < (allP pl.w 0 pl.sts).length := fun p hp => by have := lb p hp; rwa [rkP_len] at this
    have len := overF_len (allP_fit (w := pl.w) (i := 0) good.st) (numsX d2) pl.cs rfl lbA
    have fl60 : (numsX d2).length ≤ 60 := by
      cases d2 with
      | list zs => show (zs.map numX).length ≤ 60; rw [List.length_map]; exact small _ (by simp) zs (.inl rfl)
      | _ => exact Nat.zero_le _
    refine ⟨_, rfl, _, rfl, t, _, _, _, rfl, rfl, .inr (s1 _ _ ht), rfl, ga, _, _, _, rfl, rfl, .inl (s1 _ _ hg), atI_nat e, ?_⟩
    refine ⟨_, rfl, _, rfl, t, _, _, _, rfl, rfl, .inr (s1 _ _ ht), rfl, a, ca, sa, b, pl.w, xs, pl.sts, pl.cs, numsX d2, rfl, s1 _ _ ha, s1 _ _ hca, s1 _ _ hsa, steps_same s1 hst, w0, by omega, good.st, o24, s1 _ _ hb, lbA, fl60, fun c H2 s2 h2 => ?_⟩
    exact ⟨pa, c, pl.cs.length, _, _, rfl, pv'.same (s1.trans s2), o, by omega, h2, by omega, fun H3 s3 => k H3 (s1.trans (s2.trans s3))⟩
end
end Af

set_option Elab.async false
set_option linter.all false
set_option maxRecDepth 100000
set_option maxHeartbeats 1000000
namespace Af
open PySem PySem.Spec PyProof.Rows L2
/-! t[::-1], t a tuple -/
theorem pick_rev (l : List Value) : ((List.range l.length).filterMap fun (k : Nat) => l.toArray[(((l.length : Int) - 1) + (k : Int) * (-1)).toNat]?) = l.reverse := by
  have e : ((List.range l.length).filterMap fun (k : Nat) => l.toArray[(((l.length : Int) - 1) + (k : Int) * (-1)).toNat]?) = (List.range l.length).map fun k => l.getD (l.length - 1 - k) .none := by
    have : ∀ m, m ≤ l.length → ((List.range m).filterMap fun (k : Nat) => l.toArray[(((l.length : Int) - 1) + (k : Int) * (-1)).toNat]?) = (List.range m).map fun k => l.getD (l.length - 1 - k) .none := fun m => by
      induction m with
      | zero => intro _; rfl
      | succ m ih =>
        intro h
        rw [List.range_succ, List.filterMap_append, List.map_append, ih (by omega)]
        congr 1
        have i1 : (((l.length : Int) - 1) + (m : Int) * (-1)).toNat = l.length - 1 - m := by omega
        have i2 : l.length - 1 - m < l.length := by omega
        rw [List.filterMap_cons, i1]
        simp only [List.getElem?_toArray, List.getElem?_eq_getElem i2, List.filterMap_nil, List.map_cons, List.map_nil, List.getD_eq_getElem?_getD, Option.getD_some]
    exact this _ (Nat.le_refl _)
  rw [e]
  refine List.ext_getElem (by rw [List.length_map, List.length_range, List.length_reverse]) fun i h1 h2 => ?_
  rw [List.length_map, List.length_range] at h1
  rw [List.getElem_map, List.getElem_range, List.getElem_reverse, List.getD_eq_getElem?_getD, List.getElem?_eq_getElem (show l.length - 1 - i < l.length by omega)]
  rfl
section
variable {prog : Program} {w : World} {A : Around} {E : Value → Shared → Prop} {s : Shared}
theorem sliceApplied_rev {sl : Addr} {n : Nat} {vl vu vs : Value} {Q : Int × Int × Nat → Shared → Prop} (h1 : 1 ≤ n) (hs : s.heap.IsSliceOf sl vl vu vs) (pl : IsPart vl none) (pu : IsPart vu none) (ps : IsPart vs (some (-1)))
    (h : Q ((n : Int) - 1, -1, n) s) : wpAny (model prog w) A (Builtin.Slice.sliceApplied (.ref sl) (pure (n : Int))) Q E s := by
  obtain ⟨os, hos, hcs, hds⟩ := id hs
  unfold Builtin.Slice.sliceApplied Builtin.Slice.sliceFields
  refine wpAny_bind (wpAny_bind (wpAny_field hos hds (x := vl) rfl (wpAny_bind (wpAny_field hos hds (x := vu) rfl (wpAny_bind (wpAny_field hos hds (x := vs) rfl (wpAny_pure ?_)))))))
  refine wpAny_bind (HT.slicePart_ ps ?_)
  show wpAny _ _ (if ((-1 : Int) == 0) = true then _ else _) _ _ s
  rw [if_neg (by decide)]
  refine wpAny_bind (HT.slicePart_ pl (wpAny_bind (HT.slicePart_ pu (wpAny_bind (wpAny_pure ?_)))))
  show wpAny _ _ (match Builtin.Slice.sliceAdjust none none (-1) (n : Int) with | (lo, hi) => pure (lo, (-1 : Int), Builtin.Slice.slicePlaces lo hi (-1))) _ _ s
  rw [show Builtin.Slice.sliceAdjust none none (-1) (n : Int) = ((n : Int) - 1, -1) from rfl]
  show wpAny _ _ (pure (((n : Int) - 1), (-1 : Int), Builtin.Slice.slicePlaces ((n : Int) - 1) (-1) (-1))) _ _ s
  rw [show Builtin.Slice.slicePlaces ((n : Int) - 1) (-1) (-1) = n by
    unfold Builtin.Slice.slicePlaces
    rw [if_neg (by decide), if_pos (by omega)]
    show ((((n : Int) - 1 - -1 - 1) / 1) + 1).toNat = n
    rw [Int.ediv_one]
    omega]
  exact wpAny_pure h
theorem getItem_rev {t sl : Addr} {l : List Value} {vl vu vs : Value} {Q : Value → Shared → Prop} (l1 : 1 ≤ l.length) (lz : l.length ≤ sizeLine) (ht : IsTup s.heap t l.toArray) (hs : s.heap.IsSliceOf sl vl vu vs) (pl : IsPart vl none) (pu : IsPart vu none) (ps : IsPart vs (some (-1)))
    (h : Q (.ref s.heap.objs.size) { s with heap := s.heap.push { cls := .type "tuple", data := .seq l.reverse.toArray } }) : wpAny (model prog w) A (getItem (.ref t) (.ref sl)) Q E s := by
  have htake : sizeOk (.seq l.reverse.toArray) := by
    show l.reverse.toArray.size ≤ sizeLine
    rw [List.size_toArray, List.length_reverse]
    exact lz
  obtain ⟨os, hos, hcs, hds⟩ := id hs
  have hTs : s.TypeIs (.ref sl) "slice" := ⟨os, hos, hcs⟩
  unfold getItem
  try with_reducible refine wpAny_holding ?_
  first | refine wpAny_bind (wpAny_pure ?_) | skip
  refine wpAny_bind (wpAny_sequenceKey ht.typeIs (by decide) ?_)
  refine wpAny_bind (wpAny_callSpecial?_slot (name := Str.ofString "__getitem__") ht.typeIs PyProof.Rows.slot_tuple_getitem
    (wpAny_call_entry PyProof.Rows.slot_tuple_getitem ht.typeIs entry_tuple_getitem ?_ (args_tuple_getitem _ _)))
  show wpAny _ _ (Builtin.Tuple.tupleItemsOf (.ref t) >>= _) _ _ s
  refine wpAny_bind (tupleItemsOf_ ht ?_)
  refine wpAny_bind (wpAny_typeOf hTs ?_)
  rw [if_pos (by decide)]
  refine wpAny_bind (sliceApplied_rev (n := l.length) l1 hs pl pu ps ?_)
  show wpAny _ _ (if (((l.length : Int) - 1) == 0 && (-1 : Int) == 1 && l.length == l.toArray.size) = true then _ else _) _ _ s
  rw [if_neg (by simp)]
  dsimp only
  rw [pick_rev l]
  first
    | exact wpAny_bind (m := Builtin.Tuple.tupleExact _) (wpAny_newObj_type (wpAny_pure ⟨_, rfl, wpAny_pure h⟩) htake)
    | exact wpAny_bind (m := Builtin.Tuple.tupleExact _) (wpAny_newObj_type (wpAny_bind (wpAny_pure (wpAny_pure ⟨_, rfl, wpAny_pure h⟩))) htake)
    | exact wpAny_bind (wpAny_bind (m := Builtin.Tuple.tupleExact _) (wpAny_newObj_type (wpAny_pure (wpAny_pure ⟨_, rfl, wpAny_pure h⟩)) htake))
    | exact wpAny_bind (wpAny_bind (m := Builtin.Tuple.tupleExact _) (wpAny_newObj_type (wpAny_pure ⟨_, rfl, wpAny_pure h⟩) htake))
end
section
variable {X : Cx}
def tRevT (te : TE) : TE := fun σ H Q => te σ H fun x H1 => ∃ a xs, x = .ref a ∧ H1 a = some (.tup xs) ∧ 1 ≤ xs.length ∧ New (.tup xs.reverse) H1 Q
theorem pe_revT {e : Expr} {te : TE} {k : Nat} {p1 p2 p3 pos : Pos} (he : PE X e te) : PE X (.Subscript e (.Slice none none (some (.UnaryOp .USub (.Constant (.int 1) k p1) p2)) p3) pos) (tRevT te) := by
  refine ⟨fun pins s σ H Q I h => ?_⟩
  refine Subscript_ (thn (he.run pins s σ H _ I h) fun v s1 ⟨x, H1, I1, r1, q1⟩ => ?_)
  obtain ⟨a, xs, ex, hx0, xl, q⟩ := q1
  have hx : SqT X.K H1 a xs := SqT.of hx0
  subst ex
  cases r1
  have hst : PO X (some (.UnaryOp .USub (.Constant (.int 1) k p1) p2)) (tPart (tUn (rU fun i => .int (-i)) (tC (.int 1)))) := po_some (pe_un un_neg pe_int)
  refine wpAny_Slice (thn (po_none.run pins s1 σ H1 (fun o H2 => o = none ∧ H2 = H1) I1 ⟨rfl, rfl⟩) fun vl s2 ⟨l, H2, I2, pl, el, e2⟩ => ?_)
  subst el e2
  refine thn (po_none.run pins s2 σ H2 (fun o H3 => o = none ∧ H3 = H2) I2 ⟨rfl, rfl⟩) fun vu s3 ⟨u, H3, I3, pu, eu, e3⟩ => ?_
  subst eu e3
  refine thn (hst.run pins s3 σ H3 (fun o H4 => o = some (-1) ∧ H4 = H3) I3 ⟨1, rfl, -1, rfl, rfl, rfl⟩) fun vs s4 ⟨o, H4, I4, ps, eo, e4⟩ => ?_
  subst eo e4
  have I5 : Inv X pins σ H4 { s4 with heap := s4.heap.push { cls := .type "slice", data := .fields #[vl, vu, vs] } } := I4.kept (t' := s4.toks) fun b ob q => Heap.get?_push_of_some _ q
  obtain ⟨its, r, ht, hz⟩ := I5.tuple hx
  have hlen := r.length
  show wpAny (model X.prog X.w) X.A (subscriptTail e (.Slice none none (some (.UnaryOp .USub (.Constant (.int 1) k p1) p2)) p3) (.ref a) (.ref s4.heap.objs.size)) (EP X pins σ Q) X.xe { s4 with heap := s4.heap.push { cls := .type "slice", data := .fields #[vl, vu, vs] } }
  refine tail_any (ops := [.ref a, .ref s4.heap.objs.size]) ht.typeIs (PyProof.Rows.slot_tuple_getitem.lookup) ?_ (by with_unfolding_all rfl)
  refine getItem_rev (l := its) (by omega) (by omega) ht (Heap.IsSliceOf.new _ vl vu vs) pl pu ps ?_
  refine ⟨.ref _, _, I5.laid (t' := s4.toks) (o := .tup xs.reverse) (fun b ob q => Heap.get?_push_of_some _ q) (Nat.le_refl _) ?_, rfl, q.mk _ (I5.hok.fresh (Nat.le_refl _))⟩
  exact ⟨by rw [List.length_reverse]; exact hz, its.reverse, r.reverse, IsTup.new _ _⟩
end
end Af

set_option Elab.async false
set_option linter.all false
set_option maxRecDepth 100000
set_option maxHeartbeats 4000000
namespace Af
open PySem PySem.Spec PyProof.Rows L2
/-! what expressions make, told as data: nothing that stood is changed, what is made is told without the list at p -/
/-- a heap without the list at p and what S names -/
def gh (S : List Addr) (p : Addr) (H : Hp) : Hp := fun a => if a ∈ S then none else hd p H a
theorem gh_at {S : List Addr} {p a : Addr} {H : Hp} {o : HO} (n : a ≠ p) (m : a ∉ S) (h : H a = some o) : gh S p H a = some o := by
  unfold gh
  rw [if_neg m, hd_ne n]
  exact h
theorem gh_hd {S : List Addr} {p : Addr} {H : Hp} : Same (gh S p H) (hd p H) := fun a o e => by
  unfold gh at e
  by_cases m : a ∈ S
  · rw [if_pos m] at e
    cases e
  · rw [if_neg m] at e
    exact e
theorem gh_in {S : List Addr} {p : Addr} {H : Hp} : Same (gh S p H) H := fun a o e => hd_in a o (gh_hd a o e)
theorem gh_same {S : List Addr} {p : Addr} {H H' : Hp} (s : Same H H') : Same (gh S p H) (gh S p H') := fun a o e => by
  unfold gh at e ⊢
  by_cases m : a ∈ S
  · rw [if_pos m] at e
    cases e
  · rw [if_neg m] at e ⊢
    exact hd_same s a o e
/-- named, and not what stood at first -/
def Hid (S : List Addr) (H0 H : Hp) : Prop := ∀ a ∈ S, H0 a = none ∧ ∃ rows, H a = some (.dK rows)
theorem Hid.same {S : List Addr} {H0 H H' : Hp} (h : Hid S H0 H) (s : Same H H') : Hid S H0 H' := fun a m => by
  obtain ⟨h1, r, h2⟩ := h a m
  exact ⟨h1, r, s _ _ h2⟩
theorem Hid.new {S : List Addr} {H0 H : Hp} {a : Addr} (h : Hid S H0 H) (n : H a = none) : a ∉ S := fun m => by
  obtain ⟨_, r, h2⟩ := h a m
  rw [n] at h2
  cases h2
theorem gh_atT {S : List Addr} {p a : Addr} {H0 H : Hp} {xs : List V} (P : ∃ l, H p = some (.lst l)) (I : Hid S H0 H) (h : H a = some (.tup xs)) : gh S p H a = some (.tup xs) := by
  refine gh_at (fun e => ?_) (fun m => ?_) h
  · obtain ⟨l, hl⟩ := P
    rw [e, hl] at h
    cases h
  · obtain ⟨_, r, h2⟩ := I a m
    rw [h] at h2
    cases h2
def Ev (K : PySem.W.Frag) (p : Addr) (H0 : Hp) (σ : L2.St) (te : TE) (d : PyData) : Prop := ∀ (S : List Addr) (H : Hp) (Q : VK), Hid S H0 H → Same H0 H → (∀ v H', Same H H' → Dx K (gh S p H') v d → Q v H') → te σ H Q
def Evs (K : PySem.W.Frag) (p : Addr) (H0 : Hp) (σ : L2.St) (t : TA) (ds : List PyData) : Prop := ∀ (S : List Addr) (H : Hp) (Q : List V → Hp → Prop), Hid S H0 H → Same H0 H → (∀ vs H', Same H H' → DxAll K (gh S p H') vs ds → Q vs H') → t σ H Q
def IsL (p : Addr) (H0 : Hp) : Prop := ∃ l, H0 p = some (.lst l)
theorem IsL.same {p : Addr} {H H' : Hp} (h : IsL p H) (s : Same H H') : IsL p H' := by
  obtain ⟨l, h⟩ := h
  exact ⟨l, s _ _ h⟩
theorem IsL.ne {p a : Addr} {H : Hp} (h : IsL p H) (n : H a = none) : a ≠ p := fun e => by
  obtain ⟨l, h⟩ := h
  rw [e, h] at n
  cases n
theorem IsL.nt {p a : Addr} {H : Hp} {xs : List V} (h : IsL p H) (n : H a = some (.tup xs)) : a ≠ p := fun e => by
  obtain ⟨l, h⟩ := h
  rw [e, h] at n
  cases n
def cutD (ds : List PyData) (lo hi : Option Int) : List PyData := (ds.drop (HT.sIx ds.length 0 lo)).take (HT.sIx ds.length ds.length hi - HT.sIx ds.length 0 lo)
/-- a bound of a slice -/
def Evo (H0 : Hp) (σ : L2.St) (t : TO) (o : Option Int) : Prop := ∀ (S : List Addr) (H : Hp) (Q : Option Int → Hp → Prop), Hid S H0 H → Same H0 H → (∀ H', Same H H' → Q o H') → t σ H Q
section
variable {K : PySem.W.Frag} {p : Addr} {H0 : Hp} {σ : L2.St}
theorem DxAll.take {H : Hp} : ∀ {xs : List V} {ds : List PyData} (n : Nat), DxAll K H xs ds → DxAll K H (xs.take n) (ds.take n)
  | _, _, 0, _ => by rw [List.take_zero, List.take_zero]; exact .nil
  | _, _, n + 1, .nil => .nil
  | _, _, n + 1, .cons r t => .cons r (t.take n)
theorem DxAll.drop {H : Hp} : ∀ {xs : List V} {ds : List PyData} (n : Nat), DxAll K H xs ds → DxAll K H (xs.drop n) (ds.drop n)
  | _, _, 0, h => h
  | _, _, n + 1, .nil => .nil
  | _, _, n + 1, .cons r t => t.drop n
theorem DxAll.rev {H : Hp} : ∀ {xs : List V} {ds : List PyData}, DxAll K H xs ds → DxAll K H xs.reverse ds.reverse
  | _, _, .nil => .nil
  | _, _, .cons r t => by rw [List.reverse_cons, List.reverse_cons]; exact t.rev.app (.cons r .nil)
theorem DxAll.cut {H : Hp} {xs : List V} {ds : List PyData} (h : DxAll K H xs ds) (lo hi : Option Int) : DxAll K H (cutV xs lo hi) (cutD ds lo hi) := by
  unfold cutV cutD
  rw [h.len]
  exact (h.drop _).take _
theorem Ev.run {te : TE} {d : PyData} {H : Hp} {Q : VK} (e : Ev K p H0 σ te d) (s : Same H0 H) (k : ∀ v H', Same H H' → Dx K (hd p H') v d → Q v H') : te σ H Q := e [] H Q (fun a m => by cases m) s fun v H' s' q => k v H' s' (Dx.same gh_hd q)
theorem Ev.go {S : List Addr} {te : TE} {d : PyData} {H : Hp} {Q : VK} (e : Ev K p H0 σ te d) (i : Hid S H0 H) (s : Same H0 H) (k : ∀ v H', Same H H' → Dx K (gh S p H') v d → Q v H') : te σ H Q := e S H Q i s k
theorem Evs.run {t : TA} {ds : List PyData} {H : Hp} {Q : List V → Hp → Prop} (e : Evs K p H0 σ t ds) (s : Same H0 H) (k : ∀ vs H', Same H H' → DxAll K (hd p H') vs ds → Q vs H') : t σ H Q := e [] H Q (fun a m => by cases m) s fun v H' s' q => k v H' s' (DxAll.same gh_hd q)
theorem Evs.go {S : List Addr} {t : TA} {ds : List PyData} {H : Hp} {Q : List V → Hp → Prop} (e : Evs K p H0 σ t ds) (i : Hid S H0 H) (s : Same H0 H) (k : ∀ vs H', Same H H' → DxAll K (gh S p H') vs ds → Q vs H') : t σ H Q := e S H Q i s k
theorem ev_var {i : Nat} {v : V} {d : PyData} (hi : σ[i]? = some (some v)) (h : Dx K (hd p H0) v d) : Ev K p H0 σ (tVar i) d := fun S H Q I s k => ⟨v, hi, k v H (Same.refl _) (Dx.same (fun a o e => by
  have e0 := hd_in _ _ e
  have np : a ≠ p := fun z => by rw [z, show hd p H0 p = none from if_pos rfl] at e; cases e
  exact gh_at np (fun m => by rw [(I a m).1] at e0; cases e0) (s _ _ e0)) h)⟩
theorem ev_int {z : Int} : Ev K p H0 σ (tC (.int z)) (.int z) := fun S H Q I s k => k _ H (Same.refl _) (.int z)
theorem ev_str {z : Str} : Ev K p H0 σ (tC (.str z)) (.str z) := fun S H Q I s k => k _ H (Same.refl _) (.str z)
theorem ev_bl {z : Bool} : Ev K p H0 σ (tC (.bl z)) (.bool z) := fun S H Q I s k => k _ H (Same.refl _) (.bl z)
theorem ev_non : Ev K p H0 σ (tC .non) .none := fun S H Q I s k => k _ H (Same.refl _) .non
theorem evs_nil : Evs K p H0 σ tNil [] := fun S H Q I s k => k _ H (Same.refl _) .nil
theorem evs_cons {te : TE} {t : TA} {d : PyData} {ds : List PyData} (h : Ev K p H0 σ te d) (hs : Evs K p H0 σ t ds) : Evs K p H0 σ (tCons te t) (d :: ds) := fun S H Q I s k =>
  h.go I s fun v H1 s1 q1 => hs.go (I.same s1) (s.trans s1) fun vs H2 s2 q2 => k _ H2 (s1.trans s2) (.cons (Dx.same (gh_same s2) q1) q2)
theorem ev_tup {t : TA} {ds : List PyData} (P : IsL p H0) (h : Evs K p H0 σ t ds) (l : ds.length ≤ 100000) : Ev K p H0 σ (tTup' t) (.tuple ds) := fun S H Q I s k =>
  h.go I s fun vs H1 s1 q1 => ⟨sz (by rw [q1.len]; exact l), fun a H2 n s2 h2 => k _ H2 (s1.trans s2) (.tup (gh_at ((P.same (s.trans s1)).ne n) (((I.same s1)).new n) h2) (DxAll.same (gh_same s2) q1))⟩
theorem ev_lst {t : TA} {ds : List PyData} (P : IsL p H0) (h : Evs K p H0 σ t ds) (l : ds.length ≤ 100000) : Ev K p H0 σ (tLst' t) (.list ds) := fun S H Q I s k =>
  h.go I s fun vs H1 s1 q1 => ⟨sz (by rw [q1.len]; exact l), fun a H2 n s2 h2 => k _ H2 (s1.trans s2) (.lst (gh_at ((P.same (s.trans s1)).ne n) (((I.same s1)).new n) h2) (DxAll.same (gh_same s2) q1))⟩
theorem dx_lst {S : List Addr} {G : Hp} {v : V} {ds : List PyData} (h : Dx K (gh S p G) v (.list ds)) : ∃ a xs, v = .ref a ∧ G a = some (.lst xs) ∧ DxAll K (gh S p G) xs ds ∧ gh S p G a = some (.lst xs) := by
  cases h with
  | lst e t => exact ⟨_, _, rfl, gh_in _ _ e, t, e⟩
theorem dx_tupG {S : List Addr} {G : Hp} {v : V} {ds : List PyData} (h : Dx K (gh S p G) v (.tuple ds)) : ∃ a xs, v = .ref a ∧ G a = some (.tup xs) ∧ DxAll K (gh S p G) xs ds ∧ gh S p G a = some (.tup xs) := by
  cases h with
  | tup e t => exact ⟨_, _, rfl, gh_in _ _ e, t, e⟩
theorem ev_cat {ta tb : TE} {xs ys : List PyData} (P : IsL p H0) (ha : Ev K p H0 σ ta (.list xs)) (hb : Ev K p H0 σ tb (.list ys)) (l : xs.length + ys.length ≤ 100000) : Ev K p H0 σ (tOp rCat' ta tb) (.list (xs ++ ys)) := fun S H Q I s k =>
  ha.go I s fun v H1 s1 q1 => hb.go (I.same s1) (s.trans s1) fun u H2 s2 q2 => by
    obtain ⟨a, vs, rfl, h1, t1, g1⟩ := dx_lst q1
    obtain ⟨b, us, rfl, h2, t2, g2⟩ := dx_lst q2
    refine ⟨a, b, vs, us, rfl, rfl, s2 _ _ h1, h2, sz (by rw [t1.len, t2.len]; exact l), fun c H3 n s3 h3 => ?_⟩
    exact k _ H3 (s1.trans (s2.trans s3)) (.lst (gh_at ((P.same (s.trans (s1.trans s2))).ne n) (((I.same (s1.trans s2))).new n) h3) ((DxAll.same (gh_same (s2.trans s3)) t1).app (DxAll.same (gh_same s3) t2)))
theorem ev_catT {ta tb : TE} {xs ys : List PyData} (P : IsL p H0) (ha : Ev K p H0 σ ta (.tuple xs)) (hb : Ev K p H0 σ tb (.tuple ys)) (l : xs.length + ys.length ≤ 100000) : Ev K p H0 σ (tOp rCatT' ta tb) (.tuple (xs ++ ys)) := fun S H Q I s k =>
  ha.go I s fun v H1 s1 q1 => hb.go (I.same s1) (s.trans s1) fun u H2 s2 q2 => by
    obtain ⟨a, vs, rfl, h1, t1, g1⟩ := dx_tupG q1
    obtain ⟨b, us, rfl, h2, t2, g2⟩ := dx_tupG q2
    refine ⟨a, b, vs, us, rfl, rfl, s2 _ _ h1, h2, sz (by rw [t1.len, t2.len]; exact l), fun c H3 s3 h3 => ?_⟩
    exact k _ H3 (s1.trans (s2.trans s3)) (.tup (gh_atT (P.same (s.trans (s1.trans (s2.trans s3)))) (I.same (s1.trans (s2.trans s3))) h3) ((DxAll.same (gh_same (s2.trans s3)) t1).app (DxAll.same (gh_same s3) t2)))
theorem ev_rep {ta tb : TE} {xs : List PyData} {n : Int} (P : IsL p H0) (ha : Ev K p H0 σ ta (.list xs)) (hb : Ev K p H0 σ tb (.int n)) (n0 : 0 ≤ n) (n1 : n ≤ 1000) (l : xs.length * n.toNat ≤ 100000) : Ev K p H0 σ (tOp rRep' ta tb) (.list (List.replicate n.toNat xs).flatten) := fun S H Q I s k =>
  ha.go I s fun v H1 s1 q1 => hb.go (I.same s1) (s.trans s1) fun u H2 s2 q2 => by
    obtain ⟨a, vs, rfl, h1, t1, g1⟩ := dx_lst q1
    cases q2
    refine ⟨a, n, vs, rfl, rfl, s2 _ _ h1, n0, n1, sz (by rw [t1.len]; exact l), fun c H3 m s3 h3 => ?_⟩
    refine k _ H3 (s1.trans (s2.trans s3)) (.lst (gh_at ((P.same (s.trans (s1.trans s2))).ne m) (((I.same (s1.trans s2))).new m) h3) ?_)
    have t := DxAll.same (gh_same (s2.trans s3)) t1
    clear h3
    generalize n.toNat = m
    induction m with
    | zero => exact .nil
    | succ m ih => exact t.app ih
theorem ev_repT {ta tb : TE} {xs : List PyData} {n : Int} (P : IsL p H0) (ha : Ev K p H0 σ ta (.tuple xs)) (hb : Ev K p H0 σ tb (.int n)) (ne : xs ≠ []) (n0 : 0 ≤ n) (n1 : n ≤ 1000) (l : xs.length ≤ 1000) : Ev K p H0 σ (tOp rRepT' ta tb) (.tuple (List.replicate n.toNat xs).flatten) := fun S H Q I s k =>
  ha.go I s fun v H1 s1 q1 => hb.go (I.same s1) (s.trans s1) fun u H2 s2 q2 => by
    obtain ⟨a, vs, rfl, h1, t1, g1⟩ := dx_tupG q1
    cases q2
    have vn : vs ≠ [] := fun z => by
      have := t1.len
      rw [z] at this
      exact ne (List.eq_nil_of_length_eq_zero this.symm)
    refine ⟨a, n, vs, rfl, rfl, s2 _ _ h1, vn, n0, n1, by rw [t1.len]; exact l, fun c H3 s3 h3 => ?_⟩
    refine k _ H3 (s1.trans (s2.trans s3)) (.tup (gh_atT (P.same (s.trans (s1.trans (s2.trans s3)))) (I.same (s1.trans (s2.trans s3))) h3) ?_)
    have t := DxAll.same (gh_same (s2.trans s3)) t1
    clear h3
    generalize n.toNat = m
    induction m with
    | zero => exact .nil
    | succ m ih => exact t.app ih
theorem evo_none : Evo H0 σ tNoPart none := fun S H Q I s k => k H (Same.refl _)
theorem evo_some {te : TE} {i : Int} (h : Ev K p H0 σ te (.int i)) : Evo H0 σ (tPart te) (some i) := fun S H Q I s k =>
  h.go I s fun v H1 s1 q1 => by
    cases q1
    exact ⟨i, rfl, k H1 s1⟩
theorem ev_slL {te : TE} {tl th : TO} {xs : List PyData} {lo hi : Option Int} (P : IsL p H0) (h : Ev K p H0 σ te (.list xs)) (hl : Evo H0 σ tl lo) (hh : Evo H0 σ th hi) : Ev K p H0 σ (tSl rSlL' te tl th) (.list (cutD xs lo hi)) := fun S H Q I s k =>
  h.go I s fun v H1 s1 q1 => hl S H1 _ (I.same s1) (s.trans s1) fun H2 s2 => hh S H2 _ (I.same (s1.trans s2)) (s.trans (s1.trans s2)) fun H3 s3 => by
    obtain ⟨a, vs, rfl, h1, t1, g1⟩ := dx_lst q1
    refine ⟨a, vs, rfl, s3 _ _ (s2 _ _ h1), fun c H4 n s4 h4 => ?_⟩
    exact k _ H4 (s1.trans (s2.trans (s3.trans s4))) (.lst (gh_at ((P.same (s.trans (s1.trans (s2.trans s3)))).ne n) (((I.same (s1.trans (s2.trans s3)))).new n) h4) (DxAll.same (gh_same (s2.trans (s3.trans s4))) (t1.cut lo hi)))
theorem ev_slT {te : TE} {tl th : TO} {xs : List PyData} {lo hi : Option Int} (P : IsL p H0) (h : Ev K p H0 σ te (.tuple xs)) (hl : Evo H0 σ tl lo) (hh : Evo H0 σ th hi) : Ev K p H0 σ (tSl rSlT' te tl th) (.tuple (cutD xs lo hi)) := fun S H Q I s k =>
  h.go I s fun v H1 s1 q1 => hl S H1 _ (I.same s1) (s.trans s1) fun H2 s2 => hh S H2 _ (I.same (s1.trans s2)) (s.trans (s1.trans s2)) fun H3 s3 => by
    obtain ⟨a, vs, rfl, h1, t1, g1⟩ := dx_tupG q1
    refine ⟨a, vs, rfl, s3 _ _ (s2 _ _ h1), fun c H4 s4 h4 => ?_⟩
    exact k _ H4 (s1.trans (s2.trans (s3.trans s4))) (.tup (gh_atT (P.same (s.trans (s1.trans (s2.trans (s3.trans s4))))) (I.same (s1.trans (s2.trans (s3.trans s4)))) h4) (DxAll.same (gh_same (s2.trans (s3.trans s4))) (t1.cut lo hi)))
theorem ev_rev {te : TE} {xs : List PyData} (P : IsL p H0) (h : Ev K p H0 σ te (.list xs)) : Ev K p H0 σ (tRev' te) (.list xs.reverse) := fun S H Q I s k =>
  h.go I s fun v H1 s1 q1 => by
    obtain ⟨a, vs, rfl, h1, t1, g1⟩ := dx_lst q1
    exact ⟨a, vs, rfl, h1, fun c H2 n s2 h2 => k _ H2 (s1.trans s2) (.lst (gh_at ((P.same (s.trans s1)).ne n) (((I.same s1)).new n) h2) (DxAll.same (gh_same s2) t1.rev))⟩
theorem ev_revT {te : TE} {xs : List PyData} (P : IsL p H0) (h : Ev K p H0 σ te (.tuple xs)) (l : 1 ≤ xs.length) : Ev K p H0 σ (tRevT te) (.tuple xs.reverse) := fun S H Q I s k =>
  h.go I s fun v H1 s1 q1 => by
    obtain ⟨a, vs, rfl, h1, t1, g1⟩ := dx_tupG q1
    exact ⟨a, vs, rfl, h1, by rw [t1.len]; exact l, fun c H2 n s2 h2 => k _ H2 (s1.trans s2) (.tup (gh_at ((P.same (s.trans s1)).ne n) (((I.same s1)).new n) h2) (DxAll.same (gh_same s2) t1.rev))⟩
theorem ev_tupL {te : TE} {xs : List PyData} (P : IsL p H0) (h : Ev K p H0 σ te (.list xs)) : Ev K p H0 σ (tCB rTuple' (tCons te tNil)) (.tuple xs) := fun S H Q I s k =>
  h.go I s fun v H1 s1 q1 => by
    obtain ⟨a, vs, rfl, h1, t1, g1⟩ := dx_lst q1
    exact ⟨a, vs, rfl, .inl h1, fun c H2 s2 h2 => k _ H2 (s1.trans s2) (.tup (gh_atT (P.same (s.trans (s1.trans s2))) (I.same (s1.trans s2)) h2) (DxAll.same (gh_same s2) t1))⟩
theorem ev_tupT {te : TE} {xs : List PyData} (P : IsL p H0) (h : Ev K p H0 σ te (.tuple xs)) : Ev K p H0 σ (tCB rTuple' (tCons te tNil)) (.tuple xs) := fun S H Q I s k =>
  h.go I s fun v H1 s1 q1 => by
    obtain ⟨a, vs, rfl, h1, t1, g1⟩ := dx_tupG q1
    exact ⟨a, vs, rfl, .inr h1, fun c H2 s2 h2 => k _ H2 (s1.trans s2) (.tup (gh_atT (P.same (s.trans (s1.trans s2))) (I.same (s1.trans s2)) h2) (DxAll.same (gh_same s2) t1))⟩
theorem ev_lstL {te : TE} {xs : List PyData} (P : IsL p H0) (h : Ev K p H0 σ te (.list xs)) : Ev K p H0 σ (tCB rList' (tCons te tNil)) (.list xs) := fun S H Q I s k =>
  h.go I s fun v H1 s1 q1 => by
    obtain ⟨a, vs, rfl, h1, t1, g1⟩ := dx_lst q1
    exact ⟨a, vs, rfl, .inl h1, fun c H2 n s2 h2 => k _ H2 (s1.trans s2) (.lst (gh_at ((P.same (s.trans s1)).ne n) (((I.same s1)).new n) h2) (DxAll.same (gh_same s2) t1))⟩
theorem ev_lstT {te : TE} {xs : List PyData} (P : IsL p H0) (h : Ev K p H0 σ te (.tuple xs)) : Ev K p H0 σ (tCB rList' (tCons te tNil)) (.list xs) := fun S H Q I s k =>
  h.go I s fun v H1 s1 q1 => by
    obtain ⟨a, vs, rfl, h1, t1, g1⟩ := dx_tupG q1
    exact ⟨a, vs, rfl, .inr h1, fun c H2 n s2 h2 => k _ H2 (s1.trans s2) (.lst (gh_at ((P.same (s.trans s1)).ne n) (((I.same s1)).new n) h2) (DxAll.same (gh_same s2) t1))⟩
theorem ev_neg {i : Int} {te : TE} (h : Ev K p H0 σ te (.int i)) : Ev K p H0 σ (tUn (rU fun i => .int (-i)) te) (.int (-i)) := fun S H Q I s k =>
  h.go I s fun v H1 s1 q1 => by
    cases q1
    exact ⟨i, rfl, k _ H1 s1 (.int _)⟩
theorem ev_I0 {f : Int → Int → V} {g : Int → Int → PyData} {i j : Int} {ta tb : TE} (hf : ∀ H, Dx K H (f i j) (g i j)) (ha : Ev K p H0 σ ta (.int i)) (hb : Ev K p H0 σ tb (.int j)) : Ev K p H0 σ (tOp (rI0 f) ta tb) (g i j) := fun S H Q I s k =>
  ha.go I s fun v H1 s1 q1 => hb.go (I.same s1) (s.trans s1) fun u H2 s2 q2 => by
    cases q1
    cases q2
    exact ⟨i, j, rfl, rfl, k _ H2 (s1.trans s2) (hf _)⟩
theorem ev_add {i j : Int} {ta tb : TE} (ha : Ev K p H0 σ ta (.int i)) (hb : Ev K p H0 σ tb (.int j)) : Ev K p H0 σ (tOp (rI0 fun i j => .int (i + j)) ta tb) (.int (i + j)) := ev_I0 (g := fun i j => .int (i + j)) (fun _ => .int _) ha hb
theorem ev_sub {i j : Int} {ta tb : TE} (ha : Ev K p H0 σ ta (.int i)) (hb : Ev K p H0 σ tb (.int j)) : Ev K p H0 σ (tOp (rI0 fun i j => .int (i - j)) ta tb) (.int (i - j)) := ev_I0 (g := fun i j => .int (i - j)) (fun _ => .int _) ha hb
theorem ev_mul {i j : Int} {ta tb : TE} (ha : Ev K p H0 σ ta (.int i)) (hb : Ev K p H0 σ tb (.int j)) (c : CMul i j) : Ev K p H0 σ (tOp (rI CMul fun i j => .int (i * j)) ta tb) (.int (i * j)) := fun S H Q I s k =>
  ha.go I s fun v H1 s1 q1 => hb.go (I.same s1) (s.trans s1) fun u H2 s2 q2 => by
    cases q1
    cases q2
    exact ⟨i, j, rfl, rfl, c, k _ H2 (s1.trans s2) (.int _)⟩
theorem ev_pow {i j : Int} {ta tb : TE} (ha : Ev K p H0 σ ta (.int i)) (hb : Ev K p H0 σ tb (.int j)) (c : CPow i j) : Ev K p H0 σ (tOp (rI CPow fun i j => .int (i ^ j.toNat)) ta tb) (.int (i ^ j.toNat)) := fun S H Q I s k =>
  ha.go I s fun v H1 s1 q1 => hb.go (I.same s1) (s.trans s1) fun u H2 s2 q2 => by
    cases q1
    cases q2
    exact ⟨i, j, rfl, rfl, c, k _ H2 (s1.trans s2) (.int _)⟩
theorem ev_eqI {i j : Int} {ta tb : TE} (ha : Ev K p H0 σ ta (.int i)) (hb : Ev K p H0 σ tb (.int j)) : Ev K p H0 σ (tOp rEq ta tb) (.bool (decide (V.int i = V.int j))) := fun S H Q I s k =>
  ha.go I s fun v H1 s1 q1 => hb.go (I.same s1) (s.trans s1) fun u H2 s2 q2 => by
    cases q1
    cases q2
    exact ⟨rfl, k _ H2 (s1.trans s2) (.bl _)⟩
theorem ev_strI {i : Int} {te : TE} (h : Ev K p H0 σ te (.int i)) (c : i.natAbs.log2 < 1920) : Ev K p H0 σ (tCB (fun xs H Q => ∃ i : Int, xs = [.int i] ∧ i.natAbs.log2 < 1920 ∧ Q (.str (toString i)) H) (tCons te tNil)) (.str (toString i)) := fun S H Q I s k =>
  h.go I s fun v H1 s1 q1 => by
    cases q1
    exact ⟨i, rfl, c, k _ H1 s1 (.str _)⟩
theorem ev_len {te : TE} {xs : List PyData} (h : Ev K p H0 σ te (.list xs)) : Ev K p H0 σ (tCB rLen' (tCons te tNil)) (.int (xs.length : Nat)) := fun S H Q I s k =>
  h.go I s fun v H1 s1 q1 => by
    obtain ⟨a, vs, rfl, h1, t1, g1⟩ := dx_lst q1
    refine ⟨a, vs, rfl, .inl h1, ?_⟩
    rw [t1.len]
    exact k _ H1 s1 (.int _)
theorem ev_dnew (P : IsL p H0) : Ev K p H0 σ tDNewK (.dict []) := fun S H Q I s k a n => k _ _ (same_new n) (.dic (gh_at ((P.same s).ne n) (I.new n) upd_same) .nil)
/-- a dict of one number or text -/
theorem ev_disp1 {tk tv : TE} {k0 : L2.Key} {d : PyData} (P : IsL p H0) (hk : Ev K p H0 σ tk (keyD k0)) (hv : Ev K p H0 σ tv d) : Ev K p H0 σ (tDisp [(tk, tv)]) (.dict [(keyD k0, d)]) := fun S H Q I s k a n => by
  have s0 := same_new (o := .dK []) n
  have na := (P.same s).ne n
  have n0 : H0 a = none := s.free n
  have I1 : Hid (a :: S) H0 (upd H a (.dK [])) := fun b m => by
    rcases List.mem_cons.mp m with rfl | m
    · exact ⟨n0, _, upd_same⟩
    · exact (I.same s0) b m
  refine hk.go I1 (s.trans s0) fun x H1 s1 q1 => hv.go (I1.same s1) (s.trans (s0.trans s1)) fun y H2 s2 q2 => ?_
  have ha : H2 a = some (.dK []) := s2 _ _ (s1 _ _ upd_same)
  have ex : x = kV k0 := by
    cases k0 with
    | inl i => cases q1; rfl
    | inr z => cases q1; rfl
  subst ex
  refine ⟨ha, [(k0, y)], rfl, by simp, ?_⟩
  have s3 : Same H (upd H2 a (.dK (mergeK [] [(k0, y)]))) := fun b o e => by
    rw [upd_ne (fun z => by rw [z, n] at e; cases e)]
    exact s2 _ _ (s1 _ _ (s0 _ _ e))
  refine k _ _ s3 (.dic (gh_at na (I.new n) upd_same) ?_)
  refine .cons (k := k0) (Dx.same (fun b o e => ?_) q2) .nil
  have eb := gh_in _ _ e
  have nb : b ≠ a := fun z => by
    unfold gh at e
    rw [z, if_pos List.mem_cons_self] at e
    cases e
  have mb : b ∉ S := fun m => by
    unfold gh at e
    rw [if_pos (List.mem_cons_of_mem _ m)] at e
    cases e
  have pb : b ≠ p := fun z => by
    have e2 := gh_hd _ _ e
    rw [z, show hd p H2 p = none from if_pos rfl] at e2
    cases e2
  exact gh_at pb mb (by rw [upd_ne nb]; exact eb)
end
end Af

set_option Elab.async false
set_option linter.all false
set_option maxRecDepth 100000
set_option maxHeartbeats 16000000
namespace Af
open PySem L2
abbrev s_l_near : Stmt := top 62
abbrev N_l_near : List Str := ["_law_pen_here", "_law_index", "_law_some_here", "_law_many", "_law_found", "_law_one", "_law_spot"]
theorem sc_l_near : FnScope N_l_near ["_law_pen_here", "_law_index", "_law_some_here", "_law_many"] (defScope s_l_near) := ⟨rfl, rfl, rfl, by decide +kernel, rfl, by decide +kernel, by decide +kernel⟩

def AtX (d : PyData) : Prop := Bd 60 2 d
structure InX (d : PyData) : Prop where
  z : SzF d
  b : Bd 2700 3 d
structure PtX (d : PyData) : Prop where
  z : SzF d
  b : Bd 6000 4 d
structure NrX (d : PyData) : Prop where
  z : SzH d
  b : Bd 30000 6 d
theorem al_nil {S : PyData → Prop} : ∀ y ∈ ([] : List PyData), S y := fun y hy => by cases hy
theorem al_cons {S : PyData → Prop} {x : PyData} {xs : List PyData} (h : S x) (t : ∀ y ∈ xs, S y) : ∀ y ∈ x :: xs, S y := fun y hy => by
  rcases List.mem_cons.mp hy with rfl | hy
  · exact h
  · exact t y hy
theorem al_app {S : PyData → Prop} {xs ys : List PyData} (h : ∀ y ∈ xs, S y) (t : ∀ y ∈ ys, S y) : ∀ y ∈ xs ++ ys, S y := fun y hy => by
  rcases List.mem_append.mp hy with hy | hy
  · exact h y hy
  · exact t y hy
theorem al_cut {S : PyData → Prop} {xs : List PyData} {lo hi : Option Int} (h : ∀ y ∈ xs, S y) : ∀ y ∈ cutD xs lo hi, S y := fun y hy => h y (List.mem_of_mem_drop (List.mem_of_mem_take hy))
theorem al_rev {S : PyData → Prop} {xs : List PyData} (h : ∀ y ∈ xs, S y) : ∀ y ∈ xs.reverse, S y := fun y hy => h y (List.mem_reverse.mp hy)
theorem cut_len (xs : List PyData) (lo hi : Option Int) : (cutD xs lo hi).length ≤ xs.length := by
  unfold cutD
  rw [List.length_take, List.length_drop]
  omega
theorem cut_one (xs : List PyData) : (cutD xs none (some 1)).length ≤ 1 := by
  unfold cutD
  rw [List.length_take]
  have : HT.sIx xs.length xs.length (some 1) ≤ 1 := Nat.min_le_left _ _
  omega
theorem at_flatX {d : PyData} (f : flatD d = true) : AtX d := (Bd.flat f).mono (by decide) (by decide)
theorem at_oneX {d : PyData} (f : flatD d = true) : AtX (.list [d]) := (Bd.lst (b := 45) (n := 1) (k := 1) (ds := [d]) (al_cons (Bd.flat f) al_nil) (Nat.le_refl 1)).mono (by decide) (by decide)
theorem fl_szf {d : PyData} (f : flatD d = true) : SzF d := fun zs e => by
  rcases e with rfl | rfl <;> cases f
theorem fl_szh {d : PyData} (f : flatD d = true) : SzH d := fun zs e => by
  subst e
  cases f
theorem in_flat {d : PyData} (f : flatD d = true) : InX d := ⟨fl_szf f, (Bd.flat f).mono (by decide) (by decide)⟩
theorem in_lst {ds : List PyData} (h : ∀ d ∈ ds, AtX d) (l : ds.length ≤ 42) : InX (.list ds) := by
  refine ⟨fun zs e => ?_, (Bd.lst (b := 60) (n := 2) (k := 42) h l).mono (by decide) (by decide)⟩
  rcases e with e | e
  · cases e; omega
  · cases e
theorem in_tup {ds : List PyData} (h : ∀ d ∈ ds, AtX d) (l : ds.length ≤ 42) : InX (.tuple ds) := by
  refine ⟨fun zs e => ?_, (Bd.tup (b := 60) (n := 2) (k := 42) h l).mono (by decide) (by decide)⟩
  rcases e with e | e
  · cases e
  · cases e; omega
theorem pt_in {d : PyData} (h : InX d) : PtX d := ⟨h.z, h.b.mono (by decide) (by decide)⟩
theorem pt_tupX {ds : List PyData} (h : ∀ d ∈ ds, InX d) (l : ds.length ≤ 2) : PtX (.tuple ds) := by
  refine ⟨fun zs e => ?_, (Bd.tup (b := 2700) (n := 3) (k := 2) (fun d hd => (h d hd).b) l).mono (by decide) (by decide)⟩
  rcases e with e | e
  · cases e
  · cases e; omega
theorem flb {b : Bool} : flatD (.bool b) = true := by cases b <;> decide
theorem nx_flat {d : PyData} (f : flatD d = true) : NrX d := ⟨fl_szh f, (Bd.flat f).mono (by decide) (by decide)⟩
theorem nx_tup {ds : List PyData} (h : ∀ d ∈ ds, PtX d) (l : ds.length ≤ 4) : NrX (.tuple ds) := ⟨fun zs e => by
  cases e
  exact ⟨by omega, fun y hy => (h y hy).z⟩
  , (Bd.tup (b := 6000) (n := 4) (k := 4) (fun d hd => (h d hd).b) l).mono (by decide) (by decide)⟩
theorem nx_lst {ds : List PyData} (h : ∀ d ∈ ds, PtX d) (l : ds.length ≤ 4) : NrX (.list ds) := ⟨fun zs e => (by cases e), (Bd.lst (b := 6000) (n := 4) (k := 4) (fun d hd => (h d hd).b) l).mono (by decide) (by decide)⟩
theorem nx_dic {k d : PyData} (f : flatD k = true) (h : PtX d) : NrX (.dict [(k, d)]) := ⟨fun zs e => (by cases e), (Bd.dic (b := 6000) (n := 4) (k := 1) (kvs := [(k, d)]) (fun p hp => by rw [List.mem_singleton.mp hp]; exact ⟨f, h.b⟩) (Nat.le_refl 1)).mono (by decide) (by decide)⟩
theorem dx_nvs {K : PySem.W.Frag} {H : Hp} (ps : List Nat) : DxAll K H (nvs ps) (dvs (ps.map fun p => ((p : Nat) : Int))) := DxAll.of (dq_ints _)
theorem at_nvsX {ps : List Nat} (h : ∀ p ∈ ps, p < 64) : ∀ d ∈ dvs (ps.map fun p => ((p : Nat) : Int)), AtX d := fun d hd => by
  obtain ⟨z, hz, rfl⟩ := dvs_mem hd
  obtain ⟨p, hp, rfl⟩ := List.mem_map.mp hz
  have := h p hp
  exact at_flatX (flat_place ⟨by omega, by omega⟩)
theorem dvs_lenX (ps : List Nat) : (dvs (ps.map fun p => ((p : Nat) : Int))).length = ps.length := by unfold dvs; rw [List.length_map, List.length_map]
/-- things found so far -/
def FnX (K : PySem.W.Frag) (p : Addr) (H : Hp) (f : Addr) (n : Nat) : Prop := ∃ ds, Dx K (hd p H) (.ref f) (.list ds) ∧ (∀ d ∈ ds, NrX d) ∧ ds.length ≤ n
theorem szA {n : Nat} (h : n ≤ 50) : n ≤ 100000 := Nat.le_trans h (by decide)
def sp_near (K : PySem.W.Frag) : Sp := fun vs H Q _ => ∃ (q : Pn) (m : Nat) (i many : Int) (s : Addr) (ls : List Nat), vs = [.ref q.p, .int i, .ref s, .int many] ∧ Pen q m H ∧ m + 20 < 1000000000000 ∧ 0 ≤ i ∧ i ≤ 60 ∧ 0 ≤ many ∧ many ≤ 60 ∧ H s = some (.lst (nvs ls)) ∧ s ≠ q.p ∧ ls.length ≤ 40 ∧ (∀ p ∈ ls, p < 64) ∧
  ∀ l H', Go q (m + 20) H H' → FnX K q.p H' l 100 → Q (.ref l) H'
theorem dx_ref {K : PySem.W.Frag} {H : Hp} {v : V} {ds : List PyData} (h : Dx K H v (.list ds)) : ∃ a xs, v = .ref a ∧ H a = some (.lst xs) ∧ DxAll K H xs ds := by
  cases h with
  | lst e t => exact ⟨_, _, rfl, e, t⟩
theorem dx_tupH {K : PySem.W.Frag} {p : Addr} {H : Hp} {v : V} {ds : List PyData} (h : Dx K (hd p H) v (.tuple ds)) : ∃ a xs, v = .ref a ∧ hd p H a = some (.tup xs) ∧ DxAll K (hd p H) xs ds := by
  cases h with
  | tup e t => exact ⟨_, _, rfl, e, t⟩
theorem cut_two (xs : List PyData) (n : Int) (h : 0 ≤ n) : (cutD xs none (some n)).length + (cutD xs (some n) none).length = xs.length := by
  have h1 : HT.sIx xs.length xs.length (some n) = min n.toNat xs.length := if_neg (by omega)
  have h2 : HT.sIx xs.length 0 (some n) = min n.toNat xs.length := if_neg (by omega)
  have h3 : HT.sIx xs.length 0 none = 0 := rfl
  have h4 : HT.sIx xs.length xs.length none = xs.length := rfl
  unfold cutD
  rw [h1, h2, h3, h4, List.length_take, List.length_drop, List.length_take, List.length_drop]
  omega
theorem nx_dic0 : NrX (.dict []) := ⟨fun zs e => (by cases e), (Bd.dic (b := 6000) (n := 4) (k := 1) (kvs := []) (fun p hp => by cases hp) (Nat.zero_le 1)).mono (by decide) (by decide)⟩
theorem str_fl {i : Int} (h0 : 0 ≤ i) (h1 : i ≤ 60) : flatD (.str (toString i)) = true := by
  have h : ∀ n : Fin 61, flatD (.str (toString ((n.val : Nat) : Int))) = true := by decide +kernel
  have := h ⟨i.toNat, by omega⟩
  rwa [show (((⟨i.toNat, by omega⟩ : Fin 61).val : Nat) : Int) = i from Int.toNat_of_nonneg h0] at this
theorem str_lg {i : Int} (h0 : 0 ≤ i) (h1 : i ≤ 60) : i.natAbs.log2 < 1920 := by
  have h : ∀ n : Fin 61, (((n.val : Nat) : Int)).natAbs.log2 < 1920 := by decide +kernel
  have := h ⟨i.toNat, by omega⟩
  rwa [show (((⟨i.toNat, by omega⟩ : Fin 61).val : Nat) : Int) = i from Int.toNat_of_nonneg h0] at this
def onesD (many : Int) : List PyData := [.int many, .int (-1), .bool true, .none, .str "0", .list [.int 0], .int (10 ^ (39 : Int).toNat)]
theorem ones_at {many : Int} (fm : flatD (.int many) = true) : ∀ d ∈ onesD many, AtX d := by
  unfold onesD
  exact al_cons (at_flatX fm) (al_cons (at_flatX (by decide +kernel)) (al_cons (at_flatX flb) (al_cons (at_flatX (by decide +kernel)) (al_cons (at_flatX (by decide +kernel)) (al_cons (at_oneX (by decide +kernel)) (al_cons (at_flatX (by decide +kernel)) al_nil))))))
section
variable {P : Program} {w : World} {K : PySem.W.Frag} {mg : Str → Option Value} {base : Heap}
theorem ok_near {f : Addr} {fd : FuncData} (F : Fun K "_law_near" "_law_near" s_l_near f fd) (T : Txt mg) (t_str : mg "str" = none) (c_l_draw : Cal P w K mg base 2 "_law_draw" ["_law_pen_here", "_law_under"] sp_draw) : FnOk P w K mg base CX0 3 f fd ["_law_pen_here", "_law_index", "_law_some_here", "_law_many"] (sp_near K) := by
  refine F.ok sc_l_near (fun vs H Q E h => ?_) (fun cdv A outer s H vs Q E hr h => ?_)
  · obtain ⟨_, _, _, _, _, _, rfl, _⟩ := h
    rfl
  obtain ⟨q, m, i, many, s, ls, rfl, pn, hm, i0, i1, m0, m1, hs, ns, ll, lb, k⟩ := h
  refine ⟨_, (pss_cons (ps_cut (ps_set (i := 4) sc_l_near.nd rfl (Or.inl rfl) (pe_lst' (pa_cons (pe_tup' (pa_cons (pv 1) (pa_cons (pv 2) pa_nil))) (pa_cons (pe_lst' (pa_cons (pv 1) (pa_cons (pv 2) pa_nil))) (pa_cons (pe_tup' (pa_cons (pv 1) pa_nil)) (pa_cons (pe_tup' (pa_cons (pv 1) (pa_cons (pv 2) (pa_cons pe_int pa_nil)))) (pa_cons (pe_tup' (pa_cons (pv 1) (pa_cons (pe_callTy call_tuple' (by rfl) T.tuple (by decide +kernel) (pa_cons (pv 2) pa_nil)) pa_nil))) (pa_cons (pe_tup' (pa_cons (pv 2) (pa_cons (pv 1) pa_nil))) pa_nil)))))))))
    (pss_cons (ps_cut (ps_set (i := 4) sc_l_near.nd rfl (Or.inl rfl) (pe_op op_cat' (pv 4) (pe_lst' (pa_cons (pe_tup' (pa_cons pe_non (pa_cons (pv 2) pa_nil))) (pa_cons (pe_tup' (pa_cons (pe_cmpR op_eq (pv 1) pe_int (nomark _)) (pa_cons (pv 2) pa_nil))) (pa_cons (pe_tup' (pa_cons (pe_callTy call_str_int (by rfl) t_str (by decide +kernel) (pa_cons (pv 1) pa_nil)) (pa_cons (pv 2) pa_nil))) (pa_cons (pe_tup' (pa_cons (pe_un un_neg pe_int) (pa_cons (pv 2) pa_nil))) (pa_cons (pe_tup' (pa_cons (pe_op op_add (pv 1) pe_int) (pa_cons (pv 2) pa_nil))) pa_nil)))))))))
    (pss_cons (ps_cut (ps_set (i := 4) sc_l_near.nd rfl (Or.inl rfl) (pe_op op_cat' (pv 4) (pe_lst' (pa_cons (pe_tup' (pa_cons pe_int (pa_cons (pv 2) pa_nil))) (pa_cons (pe_tup' (pa_cons (pv 1) (pa_cons (pe_slice sl_list' (pv 2) (po_some pe_int) po_none) pa_nil))) (pa_cons (pe_tup' (pa_cons (pv 1) (pa_cons (pe_slice sl_list' (pv 2) po_none (po_some (pe_un un_neg pe_int))) pa_nil))) (pa_cons (pe_tup' (pa_cons (pv 1) (pa_cons (pe_op op_cat' (pv 2) (pe_slice sl_list' (pv 2) po_none (po_some pe_int))) pa_nil))) pa_nil))))))))
    (pss_cons (ps_cut (ps_set (i := 4) sc_l_near.nd rfl (Or.inl rfl) (pe_op op_cat' (pv 4) (pe_lst' (pa_cons (pe_tup' (pa_cons (pv 1) (pa_cons (pe_rev' (pv 2)) pa_nil))) (pa_cons (pe_tup' (pa_cons (pv 1) (pa_cons pe_non pa_nil))) (pa_cons (pe_tup' (pa_cons (pv 1) (pa_cons (pe_lst' pa_nil) pa_nil))) pa_nil)))))))
    (pss_cons (ps_cut (ps_for PassesOwn.never rfl (pi_tup (pe_tup' (pa_cons (pv 3) (pa_cons (pe_un un_neg pe_int) (pa_cons pe_bl (pa_cons pe_non (pa_cons pe_str (pa_cons (pe_lst' (pa_cons pe_int pa_nil)) (pa_cons (pe_op op_pow pe_int pe_int) pa_nil))))))))) (pg_name (i := 5) sc_l_near.nd rfl (Or.inl rfl))
      (pss_cons (ps_set (i := 6) sc_l_near.nd rfl (Or.inl rfl) (pe_cal c_l_draw hr (pa_cons (pv 0) (pa_cons (pe_op op_add (pe_callB call_len' (by rfl) T.len (by decide +kernel) (pa_cons (pv 2) pa_nil)) pe_int) pa_nil))))
    (pss_one (ps_set (i := 4) sc_l_near.nd rfl (Or.inl rfl) (pe_op op_cat' (pv 4) (pe_lst' (pa_cons (pe_tup' (pa_cons (pv 1) (pa_cons (pe_op op_cat' (pe_op op_cat' (pe_slice sl_list' (pv 2) po_none (po_some (pv 6))) (pe_lst' (pa_cons (pv 5) pa_nil))) (pe_slice sl_list' (pv 2) (po_some (pv 6)) po_none)) pa_nil))) (pa_cons (pe_tup' (pa_cons (pv 1) (pa_cons (pe_op op_cat' (pe_slice sl_list' (pv 2) po_none (po_some (pv 6))) (pe_lst' (pa_cons (pv 5) pa_nil))) pa_nil))) pa_nil)))))))))
    (pss_one (ps_ret (pe_op op_cat' (pv 4) (pe_lst' (pa_cons pe_non (pa_cons (pe_tup' pa_nil) (pa_cons (pe_lst' pa_nil) (pa_cons pe_str (pa_cons pe_int (pa_cons pe_bl (pa_cons pe_dnewK (pa_cons (pe_disp (pps_cons pe_int (pv 2) pps_nil) rfl rfl (by simp) (by decide)) (pa_cons (pe_tup' (pa_cons (pv 1) (pa_cons pe_dnewK pa_nil))) (pa_cons (pe_tup' (pa_cons (pv 1) (pa_cons pe_str pa_nil))) (pa_cons (pe_tup' (pa_cons (pe_tup' (pa_cons (pv 1) (pa_cons (pv 2) pa_nil))) pa_nil)) pa_nil)))))))))))))))))))), ?_⟩
  have P0 : IsL q.p H := pn.lst
  have hsx : Dx K (hd q.p H) (.ref s) (.list (dvs (ls.map fun p => ((p : Nat) : Int)))) := .lst ((hd_ne ns).trans hs) (dx_nvs ls)
  have fi : flatD (.int i) = true := flat_place ⟨i0, by omega⟩
  have fi1 : flatD (.int (i + 1)) = true := flat_place ⟨by omega, by omega⟩
  have fm : flatD (.int many) = true := flat_place ⟨m0, by omega⟩
  have sa := at_nvsX lb
  have sl := dvs_lenX ls
  have si : InX (.list (dvs (ls.map fun p => ((p : Nat) : Int)))) := in_lst sa (by omega)
  have fst : flatD (.str (toString i)) = true := str_fl i0 i1
  generalize dvs (ls.map fun p => ((p : Nat) : Int)) = sd at hsx sa sl si
  have lgi : i.natAbs.log2 < 1920 := str_lg i0 i1
  have k1 := cut_len sd none (some 1)
  have k2 := cut_len sd (some 1) none
  have k3 := cut_len sd none (some (-1))
  have k4 := cut_one sd
  -- the index and the fall
  refine ⟨fun σ' H' => ∃ fl, σ' = [some (.ref q.p), some (.int i), some (.ref s), some (.int many), some (.ref fl), none, none] ∧ Same H H' ∧ FnX K q.p H' fl 6, ?_, ?_⟩
  · apply Ev.run (K := K) (p := q.p) (H0 := H) ?e (Same.refl _) ?k
    case e =>
      apply ev_lst P0
      repeat' first | exact evs_nil | apply evs_cons | exact ev_int | exact ev_non | exact ev_bl | exact ev_str | exact ev_var rfl hsx | exact ev_var rfl (.int i) | exact ev_var rfl (.int many) | apply ev_tup P0 | apply ev_lst P0 | apply ev_tupL P0 | apply ev_cat P0 | apply ev_neg | apply ev_add | apply ev_eqI | apply ev_slL P0 | exact evo_none | apply evo_some (K := K) (p := q.p) | apply ev_rev P0 | apply ev_strI | apply ev_dnew P0 | exact ev_disp1 P0 (k0 := .inl 0) ev_int (ev_var rfl hsx)
      all_goals first | exact lgi | (simp only [List.length_append, List.length_cons, List.length_nil, List.length_reverse]; omega) | omega
    case k =>
      intro v H1 s1 q1
      obtain ⟨fl, _, rfl, _⟩ := dx_ref q1
      refine ⟨fl, rfl, s1, _, q1, ?_, ?_⟩
      rotate_left
      · simp only [List.length_cons, List.length_nil]; omega
      repeat' first | exact al_nil | refine al_cons ?_ ?_ | exact nx_flat (by decide +kernel) | exact nx_flat fi | exact nx_flat fi1 | exact nx_flat fm | exact nx_flat fst | refine nx_tup ?_ ?_ | refine nx_lst ?_ ?_ | exact nx_flat flb | exact pt_in (in_flat flb) | exact pt_in si | exact pt_in (in_flat (by decide +kernel)) | exact pt_in (in_flat fi) | exact pt_in (in_flat fi1) | exact pt_in (in_flat fm) | exact pt_in (in_flat fst) | refine pt_in (in_lst ?_ ?_) | refine pt_in (in_tup ?_ ?_) | refine pt_tupX ?_ ?_ | exact in_flat fi | exact in_flat fi1 | exact in_flat fm | exact in_flat fst | exact si | exact sa | exact al_cut sa | exact al_rev sa | refine al_app ?_ ?_ | exact at_flatX (by decide +kernel) | exact at_flatX fi | exact at_flatX fi1 | exact at_flatX fm | exact at_flatX fst | (simp only [List.length_append, List.length_cons, List.length_nil, List.length_reverse]; omega) | omega
  -- other indexes
  rintro _ HB ⟨fB, rfl, uB, dsB, qB, tyB, lnB⟩
  have PB : IsL q.p HB := P0.same uB
  have hsxB := Dx.same (hd_same uB) hsx
  refine ⟨fun σ' H' => ∃ fl, σ' = [some (.ref q.p), some (.int i), some (.ref s), some (.int many), some (.ref fl), none, none] ∧ Same H H' ∧ FnX K q.p H' fl 11, ?_, ?_⟩
  · apply Ev.run (K := K) (p := q.p) (H0 := HB) ?e (Same.refl _) ?k
    case e =>
      apply ev_cat PB
      repeat' first | exact evs_nil | apply evs_cons | exact ev_int | exact ev_non | exact ev_bl | exact ev_str | exact ev_var rfl qB | exact ev_var rfl hsxB | exact ev_var rfl (.int i) | exact ev_var rfl (.int many) | apply ev_tup PB | apply ev_lst PB | apply ev_tupL PB | apply ev_cat PB | apply ev_neg | apply ev_add | apply ev_eqI | apply ev_slL PB | exact evo_none | apply evo_some (K := K) (p := q.p) | apply ev_rev PB | apply ev_strI | apply ev_dnew PB | exact ev_disp1 PB (k0 := .inl 0) ev_int (ev_var rfl hsxB)
      all_goals first | exact lgi | (simp only [List.length_append, List.length_cons, List.length_nil, List.length_reverse]; omega) | omega
    case k =>
      intro v H1 s1 q1
      obtain ⟨fl, _, rfl, _⟩ := dx_ref q1
      refine ⟨fl, rfl, uB.trans s1, _, q1, al_app tyB ?_, ?_⟩
      rotate_left
      · simp only [List.length_append, List.length_cons, List.length_nil]; omega
      repeat' first | exact al_nil | refine al_cons ?_ ?_ | exact nx_flat (by decide +kernel) | exact nx_flat fi | exact nx_flat fi1 | exact nx_flat fm | exact nx_flat fst | refine nx_tup ?_ ?_ | refine nx_lst ?_ ?_ | exact nx_flat flb | exact pt_in (in_flat flb) | exact pt_in si | exact pt_in (in_flat (by decide +kernel)) | exact pt_in (in_flat fi) | exact pt_in (in_flat fi1) | exact pt_in (in_flat fm) | exact pt_in (in_flat fst) | refine pt_in (in_lst ?_ ?_) | refine pt_in (in_tup ?_ ?_) | refine pt_tupX ?_ ?_ | exact in_flat fi | exact in_flat fi1 | exact in_flat fm | exact in_flat fst | exact si | exact sa | exact al_cut sa | exact al_rev sa | refine al_app ?_ ?_ | exact at_flatX (by decide +kernel) | exact at_flatX fi | exact at_flatX fi1 | exact at_flatX fm | exact at_flatX fst | (simp only [List.length_append, List.length_cons, List.length_nil, List.length_reverse]; omega) | omega
  -- other falls
  rintro _ HD ⟨fD, rfl, uD, dsD, qD, tyD, lnD⟩
  have PD : IsL q.p HD := P0.same uD
  have hsxD := Dx.same (hd_same uD) hsx
  refine ⟨fun σ' H' => ∃ fl, σ' = [some (.ref q.p), some (.int i), some (.ref s), some (.int many), some (.ref fl), none, none] ∧ Same H H' ∧ FnX K q.p H' fl 15, ?_, ?_⟩
  · apply Ev.run (K := K) (p := q.p) (H0 := HD) ?e (Same.refl _) ?k
    case e =>
      apply ev_cat PD
      repeat' first | exact evs_nil | apply evs_cons | exact ev_int | exact ev_non | exact ev_bl | exact ev_str | exact ev_var rfl qD | exact ev_var rfl hsxD | exact ev_var rfl (.int i) | exact ev_var rfl (.int many) | apply ev_tup PD | apply ev_lst PD | apply ev_tupL PD | apply ev_cat PD | apply ev_neg | apply ev_add | apply ev_eqI | apply ev_slL PD | exact evo_none | apply evo_some (K := K) (p := q.p) | apply ev_rev PD | apply ev_strI | apply ev_dnew PD | exact ev_disp1 PD (k0 := .inl 0) ev_int (ev_var rfl hsxD)
      all_goals first | exact lgi | (simp only [List.length_append, List.length_cons, List.length_nil, List.length_reverse]; omega) | omega
    case k =>
      intro v H1 s1 q1
      obtain ⟨fl, _, rfl, _⟩ := dx_ref q1
      refine ⟨fl, rfl, uD.trans s1, _, q1, al_app tyD ?_, ?_⟩
      rotate_left
      · simp only [List.length_append, List.length_cons, List.length_nil]; omega
      repeat' first | exact al_nil | refine al_cons ?_ ?_ | exact nx_flat (by decide +kernel) | exact nx_flat fi | exact nx_flat fi1 | exact nx_flat fm | exact nx_flat fst | refine nx_tup ?_ ?_ | refine nx_lst ?_ ?_ | exact nx_flat flb | exact pt_in (in_flat flb) | exact pt_in si | exact pt_in (in_flat (by decide +kernel)) | exact pt_in (in_flat fi) | exact pt_in (in_flat fi1) | exact pt_in (in_flat fm) | exact pt_in (in_flat fst) | refine pt_in (in_lst ?_ ?_) | refine pt_in (in_tup ?_ ?_) | refine pt_tupX ?_ ?_ | exact in_flat fi | exact in_flat fi1 | exact in_flat fm | exact in_flat fst | exact si | exact sa | exact al_cut sa | exact al_rev sa | refine al_app ?_ ?_ | exact at_flatX (by decide +kernel) | exact at_flatX fi | exact at_flatX fi1 | exact at_flatX fm | exact at_flatX fst | (simp only [List.length_append, List.length_cons, List.length_nil, List.length_reverse]; omega) | omega
  -- turned round, none
  rintro _ HG ⟨fG, rfl, uG, dsG, qG, tyG, lnG⟩
  have PG : IsL q.p HG := P0.same uG
  have hsxG := Dx.same (hd_same uG) hsx
  refine ⟨fun σ' H' => ∃ fl, σ' = [some (.ref q.p), some (.int i), some (.ref s), some (.int many), some (.ref fl), none, none] ∧ Same H H' ∧ FnX K q.p H' fl 18, ?_, ?_⟩
  · apply Ev.run (K := K) (p := q.p) (H0 := HG) ?e (Same.refl _) ?k
    case e =>
      apply ev_cat PG
      repeat' first | exact evs_nil | apply evs_cons | exact ev_int | exact ev_non | exact ev_bl | exact ev_str | exact ev_var rfl qG | exact ev_var rfl hsxG | exact ev_var rfl (.int i) | exact ev_var rfl (.int many) | apply ev_tup PG | apply ev_lst PG | apply ev_tupL PG | apply ev_cat PG | apply ev_neg | apply ev_add | apply ev_eqI | apply ev_slL PG | exact evo_none | apply evo_some (K := K) (p := q.p) | apply ev_rev PG | apply ev_strI | apply ev_dnew PG | exact ev_disp1 PG (k0 := .inl 0) ev_int (ev_var rfl hsxG)
      all_goals first | exact lgi | (simp only [List.length_append, List.length_cons, List.length_nil, List.length_reverse]; omega) | omega
    case k =>
      intro v H1 s1 q1
      obtain ⟨fl, _, rfl, _⟩ := dx_ref q1
      refine ⟨fl, rfl, uG.trans s1, _, q1, al_app tyG ?_, ?_⟩
      rotate_left
      · simp only [List.length_append, List.length_cons, List.length_nil]; omega
      repeat' first | exact al_nil | refine al_cons ?_ ?_ | exact nx_flat (by decide +kernel) | exact nx_flat fi | exact nx_flat fi1 | exact nx_flat fm | exact nx_flat fst | refine nx_tup ?_ ?_ | refine nx_lst ?_ ?_ | exact nx_flat flb | exact pt_in (in_flat flb) | exact pt_in si | exact pt_in (in_flat (by decide +kernel)) | exact pt_in (in_flat fi) | exact pt_in (in_flat fi1) | exact pt_in (in_flat fm) | exact pt_in (in_flat fst) | refine pt_in (in_lst ?_ ?_) | refine pt_in (in_tup ?_ ?_) | refine pt_tupX ?_ ?_ | exact in_flat fi | exact in_flat fi1 | exact in_flat fm | exact in_flat fst | exact si | exact sa | exact al_cut sa | exact al_rev sa | refine al_app ?_ ?_ | exact at_flatX (by decide +kernel) | exact at_flatX fi | exact at_flatX fi1 | exact at_flatX fm | exact at_flatX fst | (simp only [List.length_append, List.length_cons, List.length_nil, List.length_reverse]; omega) | omega
  -- put in and put behind
  rintro _ HL ⟨fL, rfl, uL, dsL, qL, tyL, lnL⟩
  have PL : IsL q.p HL := P0.same uL
  have hsxL := Dx.same (hd_same uL) hsx
  have pL : Pen q m HL := pn.same uL
  refine ⟨fun σ' H' => ∃ fl v5 v6, σ' = [some (.ref q.p), some (.int i), some (.ref s), some (.int many), some (.ref fl), v5, v6] ∧ Go q (m + 7) HL H' ∧ FnX K q.p H' fl 32, ?_, ?_⟩
  · apply Ev.run (K := K) (p := q.p) (H0 := HL) ?e (Same.refl _) ?k
    case e =>
      apply ev_tup PL
      repeat' first | exact evs_nil | apply evs_cons | exact ev_int | exact ev_non | exact ev_bl | exact ev_str | exact ev_var rfl hsxL | exact ev_var rfl (.int i) | exact ev_var rfl (.int many) | apply ev_tup PL | apply ev_lst PL | apply ev_tupL PL | apply ev_cat PL | apply ev_pow | apply ev_neg | apply ev_add | apply ev_eqI | apply ev_slL PL | exact evo_none | apply evo_some (K := K) (p := q.p) | apply ev_rev PL | apply ev_strI | apply ev_dnew PL | exact ev_disp1 PL (k0 := .inl 0) ev_int (ev_var rfl hsxL)
      all_goals first | exact lgi | exact ⟨by decide, by decide, by decide⟩ | (simp only [List.length_append, List.length_cons, List.length_nil, List.length_reverse]; omega) | omega
    case k =>
      intro v H1 s1 q1
      obtain ⟨tu, xs, rfl, e1, t1⟩ := dx_tupH q1
      have l1 : xs.length = 7 := t1.len
      refine ⟨tu, rfl, ⟨_, SqT.of (hd_in _ _ e1)⟩, for_tup (K := K) (a := tu) (xs := xs) (fun j σ' H' => ∃ fl v5 v6, σ' = [some (.ref q.p), some (.int i), some (.ref s), some (.int many), some (.ref fl), v5, v6] ∧ Go q (m + j) H1 H' ∧ FnX K q.p H' fl (18 + 2 * j)) ?_ ?_ ?_ ?_⟩
      · exact ⟨_, _, _, rfl, Go.refl (pL.same s1), _, Dx.same (hd_same s1) qL, tyL, lnL⟩
      · rintro j σ' H' _ ⟨_, _, _, rfl, g, _⟩
        exact SqT.of (hd_in _ _ (hd_kp g.kp _ _ e1))
      · rintro j x σ' H' hx ⟨fM, v5, v6, rfl, g, dsM, qM, tyM, lnM⟩
        obtain ⟨dx, hdx, hox⟩ := t1.at hx
        have j7 : j < 7 := by rw [← l1]; exact (List.getElem?_eq_some_iff.mp hx).1
        have ax : AtX dx := ones_at fm dx (List.mem_of_getElem? hdx)
        have hs1 : H' s = some (.lst (nvs ls)) := g.kp.lst ns (s1 _ _ (uL _ _ hs))
        refine ⟨_, rfl, _, rfl, s, _, rfl, .inl hs1, _, _, rfl, rfl, q, m + j, _, rfl, by rw [nvs_len]; omega, by rw [nvs_len]; omega, g.pen, by omega, fun spot H2 d0 d1 g2 => ?_⟩
        rw [nvs_len] at d1
        have G2 : Go q (m + (j + 1)) H1 H2 := g.trans g2
        have PS : IsL q.p H2 := by
          obtain ⟨_, _, e, _⟩ := G2.pen.ex
          exact ⟨_, e⟩
        have hsxS : Dx K (hd q.p H2) (.ref s) (.list sd) := Dx.same (hd_kp G2.kp) (Dx.same (hd_same s1) hsxL)
        have qS := Dx.same (hd_kp g2.kp) qM
        have hoS := Dx.same (hd_kp G2.kp) hox
        have k5 := cut_len sd none (some spot)
        have k6 := cut_len sd (some spot) none
        have k7 := cut_two sd spot d0
        dsimp only [gName, tAsg]
        apply Ev.run (K := K) (p := q.p) (H0 := H2) ?e2 (Same.refl _) ?k2
        case e2 =>
          apply ev_cat PS
          repeat' first | exact evs_nil | apply evs_cons | exact ev_int | exact ev_non | exact ev_bl | exact ev_str | exact ev_var rfl qS | exact ev_var rfl hsxS | exact ev_var rfl (.int i) | exact ev_var rfl (.int many) | apply ev_tup PS | apply ev_lst PS | apply ev_tupL PS | apply ev_cat PS | exact ev_var rfl hoS | exact ev_var rfl (.int spot) | apply ev_neg | apply ev_add | apply ev_eqI | apply ev_slL PS | exact evo_none | apply evo_some (K := K) (p := q.p) | apply ev_rev PS | apply ev_strI | apply ev_dnew PS | exact ev_disp1 PS (k0 := .inl 0) ev_int (ev_var rfl hsxS)
          all_goals first | exact lgi | exact ⟨by decide, by decide, by decide⟩ | (simp only [List.length_append, List.length_cons, List.length_nil, List.length_reverse]; omega) | omega
        case k2 =>
          intro v H3 s3 q3
          obtain ⟨fl, _, rfl, _⟩ := dx_ref q3
          refine ⟨fl, _, _, rfl, G2.same s3, _, q3, al_app tyM ?_, ?_⟩
          rotate_left
          · simp only [List.length_append, List.length_cons, List.length_nil]; omega
          repeat' first | exact al_nil | refine al_cons ?_ ?_ | exact nx_flat (by decide +kernel) | exact nx_flat fi | exact nx_flat fi1 | exact nx_flat fm | exact nx_flat fst | refine nx_tup ?_ ?_ | refine nx_lst ?_ ?_ | exact nx_flat flb | exact pt_in (in_flat flb) | exact pt_in si | exact pt_in (in_flat (by decide +kernel)) | exact pt_in (in_flat fi) | exact pt_in (in_flat fi1) | exact pt_in (in_flat fm) | exact pt_in (in_flat fst) | refine pt_in (in_lst ?_ ?_) | refine pt_in (in_tup ?_ ?_) | refine pt_tupX ?_ ?_ | exact in_flat fi | exact in_flat fi1 | exact in_flat fm | exact in_flat fst | exact si | exact sa | exact ax | exact al_cut sa | refine in_lst ?_ ?_ | exact al_rev sa | refine al_app ?_ ?_ | exact at_flatX (by decide +kernel) | exact at_flatX fi | exact at_flatX fi1 | exact at_flatX fm | exact at_flatX fst | (simp only [List.length_append, List.length_cons, List.length_nil, List.length_reverse]; omega) | omega
      · rintro σ' H' ⟨fl, v5, v6, rfl, g, fx⟩
        rw [l1] at g fx
        exact ⟨_, _, _, rfl, Go.trans (Go.same (Go.refl pL) s1 |>.mono (Nat.le_refl _)) g, fx⟩
  -- no things at all
  rintro _ HR ⟨fR, v5, v6, rfl, gR, dsR, qR, tyR, lnR⟩
  have PR : IsL q.p HR := by
    obtain ⟨_, _, e, _⟩ := gR.pen.ex
    exact ⟨_, e⟩
  have hsxR := Dx.same (hd_kp gR.kp) hsxL
  dsimp only [tRet]
  apply Ev.run (K := K) (p := q.p) (H0 := HR) ?e3 (Same.refl _) ?k3
  case e3 =>
    apply ev_cat PR
    repeat' first | exact evs_nil | apply evs_cons | exact ev_int | exact ev_non | exact ev_bl | exact ev_str | exact ev_var rfl qR | exact ev_var rfl hsxR | exact ev_var rfl (.int i) | exact ev_var rfl (.int many) | apply ev_tup PR | apply ev_lst PR | apply ev_tupL PR | apply ev_cat PR | apply ev_neg | apply ev_add | apply ev_eqI | apply ev_slL PR | exact evo_none | apply evo_some (K := K) (p := q.p) | apply ev_rev PR | apply ev_strI | apply ev_dnew PR | exact ev_disp1 PR (k0 := .inl 0) ev_int (ev_var rfl hsxR)
    all_goals first | exact lgi | exact ⟨by decide, by decide, by decide⟩ | (simp only [List.length_append, List.length_cons, List.length_nil, List.length_reverse]; omega) | omega
  case k3 =>
    intro v H3 s3 q3
    obtain ⟨fl, _, rfl, _⟩ := dx_ref q3
    refine k fl H3 ?_ ⟨_, q3, al_app tyR ?_, ?_⟩
    · exact (Go.same (Go.refl pn) uL).trans ((gR.same s3).mono (by omega))
    rotate_left
    · simp only [List.length_append, List.length_cons, List.length_nil]; omega
    repeat' first | exact al_nil | refine al_cons ?_ ?_ | exact nx_flat (by decide +kernel) | exact nx_flat fi | exact nx_flat fi1 | exact nx_flat fm | exact nx_flat fst | refine nx_tup ?_ ?_ | refine nx_lst ?_ ?_ | exact pt_tupX (al_cons (in_flat fi) (al_cons si al_nil)) (Nat.le_refl 2) | exact nx_flat flb | exact nx_dic (by decide +kernel) (pt_in si) | exact nx_dic0 | exact pt_in (in_flat flb) | exact pt_in si | exact pt_in (in_flat (by decide +kernel)) | exact pt_in (in_flat fi) | exact pt_in (in_flat fi1) | exact pt_in (in_flat fm) | exact pt_in (in_flat fst) | refine pt_in (in_lst ?_ ?_) | refine pt_in (in_tup ?_ ?_) | refine pt_tupX ?_ ?_ | exact in_flat fi | exact in_flat fi1 | exact in_flat fm | exact in_flat fst | exact si | exact sa | exact al_cut sa | exact al_rev sa | refine al_app ?_ ?_ | exact at_flatX (by decide +kernel) | exact at_flatX fi | exact at_flatX fi1 | exact at_flatX fm | exact at_flatX fst | (simp only [List.length_append, List.length_cons, List.length_nil, List.length_reverse]; omega) | omega
end
end Af

set_option Elab.async false
set_option linter.all false
set_option maxRecDepth 100000
set_option maxHeartbeats 16000000
namespace Af
open PySem L2
abbrev s_law : Stmt := top 63
abbrev N_law : List Str := ["_law_script", "_law_pen_here", "_law_turn", "_law_plan_here", "_law_made", "_law_many", "_law_guards_here", "_law_again", "_law_some_here", "_law_index", "_law_thing", "_law_seen", "_law_one", "_law_rows", "_law_k"]
theorem sc_law : FnScope N_law ["_law_script"] (defScope s_law) := ⟨rfl, rfl, rfl, by decide +kernel, rfl, by decide +kernel, by decide +kernel⟩

def sp_law (K : PySem.W.Frag) : Sp := fun vs H Q _ => ∃ (a : Addr) (ns : List Int), vs = [.ref a] ∧ SqL K H a (ns.map V.int) ∧ ∀ H', Q (.bl true) H'
theorem spl_len1 {w f : Int} {ws : List Int} (h : ws ≠ []) : (spl w f [] f ws).length ≤ ws.length := by
  cases ws with
  | nil => exact absurd rfl h
  | cons x r =>
    rw [spl_go (by simp), List.length_cons]
    exact spl_len r _ _ _
theorem allP_tot {w : Int} {n : Nat} : ∀ {l : List Stp} {i : Nat}, (∀ x ∈ l, OkS n x) → (allP w i l).length ≤ tot l
  | [], _, _ => Nat.le_refl _
  | a :: l, i, h => by
    have ih := allP_tot (w := w) (l := l) (i := i + 1) fun x hx => h x (List.mem_cons_of_mem _ hx)
    have e : allP w i (a :: l) = oneP w i a ++ allP w (i + 1) l := rfl
    rw [e, List.length_append, tot_cons]
    have o := h a List.mem_cons_self
    cases a with
    | none =>
      show 0 + _ ≤ 0 + _
      omega
    | some fw =>
      obtain ⟨f, ws⟩ := fw
      obtain ⟨_, o2, _⟩ := o
      have z : (oneP w i (some (f, ws))).length ≤ ws.length := by
        show ((spl w f [] f ws).map _).length ≤ _
        rw [List.length_map]
        exact spl_len1 o2
      have e2 : stl (some (f, ws)) = ws.length := rfl
      omega
theorem OkP.of {s t : Nat} {pl : Pl} (g : Good s t pl) (h1 : s ≤ 40) (h2 : t ≤ 40) : OkP pl := ⟨g.c1, g.c24, g.cb, g.w1, g.w24, g.st, Nat.le_trans g.sl h1, Nat.le_trans (allP_tot g.st) (Nat.le_trans g.tl h2)⟩
theorem first_own {K : PySem.W.Frag} {C : Addr} : PySem.W.notFirst K C (.ref C) = true := by
  unfold PySem.W.notFirst
  simp
section
variable {K : PySem.W.Frag} {mg : Str → Option Value} {C p : Addr} {H : Hp} {x y : V} {pl pl' : Pl} {n : String} {Q : VK}
theorem ne_ins (T : PlanC K mg C) (hx : PlanI p C H x pl) (hy : PlanI p C H y pl') (q : Q (.bl (!samePl pl pl')) H) : rOwnNe K C (sp_eq K C) x y H Q := by
  obtain ⟨a, dx, _, _, fs, _, rfl, h1, _⟩ := hx.ex
  obtain ⟨b, dy, _, _, gs, _, rfl, g1, _⟩ := hy.ex
  exact ⟨a, dx, fs, _, rfl, h1, T.ty g1, first_own, p, _, _, pl, rfl, hx, .inl ⟨pl', hy, _, rfl, q⟩⟩
end
theorem kp_updL {H : Hp} {D : Addr} {xs ys : List V} (h : H D = some (.lst xs)) : Kp D H (upd H D (.lst ys)) := fun a o n e => by
  by_cases z : a = D
  · subst z
    rw [h] at e
    cases e
    rcases n with n | n
    · exact absurd rfl n
    · exact absurd rfl (n _)
  · rw [upd_ne z]
    exact e
theorem ne_tl {H : Hp} {a b : Addr} {xs ys : List V} (h1 : H a = some (.tup xs)) (h2 : H b = some (.lst ys)) : a ≠ b := fun e => by
  rw [e, h2] at h1
  cases h1
theorem last_snoc {xs : List V} {y : V} : (xs ++ [y])[(xs ++ [y]).length - 1]? = some y := by
  rw [List.length_append]
  show (xs ++ [y])[xs.length + 1 - 1]? = some y
  rw [Nat.add_sub_cancel, List.getElem?_append_right (Nat.le_refl _), Nat.sub_self]
  rfl
theorem bl_dp {b : Bool} : (PyData.bool b).depth ≤ 60 := by cases b <;> decide
theorem bl_tx {b : Bool} : (PyData.bool b).shown.length ≤ sizeLine := by cases b <;> exact szr (by decide +kernel)
theorem szh_two {i : Int} {ds : List PyData} (h : ds.length ≤ 60) : SzH (.tuple [.int i, .list ds]) := fun zs e => by
  cases e
  refine ⟨by show 2 ≤ 1000; decide, fun y hy => ?_⟩
  simp only [List.mem_cons, List.not_mem_nil, or_false] at hy
  rcases hy with rfl | rfl
  · intro zs e
    rcases e with e | e <;> cases e
  · intro zs e
    rcases e with e | e
    · cases e
      exact h
    · cases e
theorem pairs_go {σ : L2.St} : ∀ (l : List (Nat × Int)) (H : Hp) (Q : List (V × V) → Hp → Prop), (∀ (rows : List (L2.Key × V)) H', Same H H' → Paired (RowV H') rows (l.map fun p => (p.1, [p.2])) → Q (rows.map fun kv => (kV kv.1, kv.2)) H') → tPairs (l.map fun p => (tC (.int ((p.1 : Nat) : Int)), tTup' (tCons (tC (.int p.2)) tNil))) σ H Q
  | [], H, Q, k => k [] H (Same.refl _) .nil
  | p :: r, H, Q, k => ⟨szr, fun t H1 n s h => pairs_go r H1 _ fun rows H' s2 pr => k ((.inl ((p.1 : Nat) : Int), .ref t) :: rows) H' (s.trans s2) (.cons ⟨rfl, t, rfl, s2 _ _ h⟩ pr)⟩
theorem merge_rows : ∀ (rows acc : List (L2.Key × V)), ((acc ++ rows).map (·.1)).Nodup → mergeK acc rows = acc ++ rows
  | [], acc, _ => (List.append_nil acc).symm
  | p :: r, acc, h => by
    show mergeK (putK acc p.1 p.2) r = _
    have e : acc ++ p :: r = (acc ++ [p]) ++ r := by rw [List.append_assoc]; rfl
    have np : p.1 ∉ acc.map (·.1) := fun m => by
      rw [List.map_append, List.nodup_append] at h
      exact h.2.2 _ m _ (by rw [List.map_cons]; exact List.mem_cons_self) rfl
    rw [putK_snoc np, e]
    rw [e] at h
    exact merge_rows r _ h
theorem disp_pat {σ : L2.St} {H : Hp} {Q : VK} (l : List (Nat × Int)) (nd : ((l.map fun p => (p.1, [p.2])).map fun p => (Sum.inl ((p.1 : Nat) : Int) : L2.Key)).Nodup) (ll : l.length ≤ 15) (k : ∀ d H', Same H H' → H d = none → PatV H' d (l.map fun p => (p.1, [p.2])) → Q (.ref d) H') :
    tDisp (l.map fun p => (tC (.int ((p.1 : Nat) : Int)), tTup' (tCons (tC (.int p.2)) tNil))) σ H Q := fun p n => by
  refine pairs_go l (upd H p (.dK [])) _ fun rows H' s pr => ?_
  have hp : H' p = some (.dK []) := s _ _ upd_same
  have rl : rows.length = l.length := by rw [paired_len pr, List.length_map]
  refine ⟨hp, rows, rfl, by omega, ?_⟩
  have s0 : Same H (upd H' p (.dK (mergeK [] rows))) := fun b o e => by
    have nb : b ≠ p := fun z => by rw [z, n] at e; cases e
    rw [upd_ne nb]
    exact s _ _ (by rw [upd_ne nb]; exact e)
  refine k p _ s0 n ⟨⟨rows, ?_, L2.Paired.mapP pr fun a b ⟨e, t, e2, z⟩ => ⟨e, t, e2, ?_⟩⟩⟩
  · rw [upd_same, merge_rows rows [] (by rw [List.nil_append, rows_keys pr]; exact nd)]
    rfl
  · rw [upd_ne (fun w => by rw [w, hp] at z; cases z)]
    exact z
def plH : Pl := ⟨List.replicate 24 0, 1, [some (0, List.replicate 24 1), none, some (8, List.replicate 16 2)]⟩
def gsH : List Ptn := [[(23, [2])], [(0, [0]), (7, [1])], [(8, [2]), (9, [1])]]
theorem okH : OkP plH := by
  refine ⟨by decide, by decide, fun z hz => ?_, by decide, by decide, fun y hy => ?_, by decide, by decide +kernel⟩
  · have hz' : z ∈ List.replicate 24 (0 : Int) := hz
    rw [(List.mem_replicate.mp hz').2]
    decide
  · have hy' : y ∈ [some ((0 : Int), List.replicate 24 (1 : Int)), none, some (8, List.replicate 16 2)] := hy
    simp only [List.mem_cons, List.not_mem_nil, or_false] at hy'
    show OkS 24 y
    rcases hy' with rfl | rfl | rfl
    · exact ⟨by decide, by simp, by rw [List.length_replicate]; decide, fun z hz => by rw [(List.mem_replicate.mp hz).2]; decide⟩
    · exact True.intro
    · exact ⟨by decide, by simp, by rw [List.length_replicate]; decide, fun z hz => by rw [(List.mem_replicate.mp hz).2]; decide⟩
theorem okG3 : ∀ ps ∈ gsH, OkPt 24 ps ∧ ps.length ≤ 24 := by
  intro ps h
  unfold gsH at h
  simp only [List.mem_cons, List.not_mem_nil, or_false] at h
  rcases h with rfl | rfl | rfl
  · exact ⟨⟨by decide, by decide, by decide, by decide, by decide⟩, by decide⟩
  · exact ⟨⟨by decide, by decide, by decide, by decide, by decide⟩, by decide⟩
  · exact ⟨⟨by decide, by decide, by decide, by decide, by decide⟩, by decide⟩
def rgD (a b : Int) : List PyData := dvs ((List.range (b - a).toNat).map fun i => a + (i : Nat))
theorem dx_rg {K : PySem.W.Frag} {H : Hp} {a b : Int} : DxAll K H (rgV a b) (rgD a b) := by
  have e : rgV a b = ivs ((List.range (b - a).toNat).map fun i => a + (i : Nat)) := by
    unfold rgV ivs
    rw [List.map_map]
    rfl
  rw [e]
  exact DxAll.of (dq_ints _)
theorem rgD_len {a b : Int} : (rgD a b).length = (b - a).toNat := by
  unfold rgD dvs
  rw [List.length_map, List.length_map, List.length_range]
theorem szf_l {ds : List PyData} (h : ds.length ≤ 60) : SzF (.list ds) := fun zs e => by
  rcases e with e | e
  · cases e
    exact h
  · cases e
theorem szh_pr {i : Int} {d : PyData} (h : SzF d) : SzH (.tuple [.int i, d]) := fun zs e => by
  cases e
  refine ⟨by show 2 ≤ 1000; decide, fun y hy => ?_⟩
  simp only [List.mem_cons, List.not_mem_nil, or_false] at hy
  rcases hy with rfl | rfl
  · intro zs e
    rcases e with e | e <;> cases e
  · exact h
theorem all5 {S : V → Prop} {a b c d e : V} (h1 : S a) (h2 : S b) (h3 : S c) (h4 : S d) (h5 : S e) : ∀ y ∈ [a, b, c, d, e], S y := fun y hy => by
  simp only [List.mem_cons, List.not_mem_nil, or_false] at hy
  rcases hy with rfl | rfl | rfl | rfl | rfl
  · exact h1
  · exact h2
  · exact h3
  · exact h4
  · exact h5
theorem harm_all : harmB plH gsH (.tuple [.int 0, .list (rgD 0 40)]) = true := by decide +kernel
theorem sa_t {H H' : Hp} {a : Addr} {o : HO} (s : Same H H') (h : H a = some o) : H' a = some o := s _ _ h
section
variable {P : Program} {w : World} {K : PySem.W.Frag} {mg : Str → Option Value} {base : Heap}
theorem ok_law {f C fE fI : Addr} {fd fdE fdI : FuncData} (F : Fun K "law" "law" s_law f fd) (T : Txt mg) (t_repr : mg "repr" = none) (TC : PlanC K mg C) (O : OwnEqC K C fE)
    (G_eq : FnOk P w K mg base CX0 1 fE fdE ["self", "other"] (sp_eq K C)) (b_eq : Binds K fdE ["self", "other"] []) (M_Plan : Mk K C fI)
    (G_Plan : FnOk P w K mg base CX0 6 fI fdI ["self", "base", "width", "steps"] (sp_initX C)) (b_Plan : Binds K fdI ["self", "base", "width", "steps"] [])
    (c_l_pen : Cal P w K mg base 1 "_law_pen" ["_law_script"] (sp_pen K)) (c_l_draw : Cal P w K mg base 2 "_law_draw" ["_law_pen_here", "_law_under"] sp_draw) (c_l_plan : Cal P w K mg base 5 "_law_plan" ["_law_pen_here", "_law_most"] sp_plan)
    (c_l_plan_of : Cal P w K mg base 8 "_law_plan_of" ["_law_plan_here"] (sp_plan_of C)) (c_l_parts : Cal P w K mg base 2 "_law_parts" ["_law_plan_here"] sp_partsX)
    (c_l_fall : Cal P w K mg base 4 "_law_fall" ["_law_pen_here", "_law_plan_here"] sp_fall) (c_l_pattern : Cal P w K mg base 5 "_law_pattern" ["_law_pen_here", "_law_plan_here"] sp_lpattern)
    (c_l_near : Cal P w K mg base 3 "_law_near" ["_law_pen_here", "_law_index", "_law_some_here", "_law_many"] (sp_near K))
    (c_is_harm : Cal P w K mg base 8 "is_harm" ["plan", "guards", "thing"] (sp_is_harm K C)) (c_l_is_harm : Cal P w K mg base 5 "_law_is_harm" ["_law_plan_here", "_law_guards_here", "_law_thing"] (sp_lis_harm K (fun _ => True))) :
    FnG P w K mg base 10 f fd ["_law_script"] (sp_law K) := by
  refine okG F sc_law (fun vs H Q E h => ?_) (fun cdv A outer s H vs Q E hr hg h => ?_)
  · obtain ⟨_, _, rfl, _⟩ := h
    rfl
  obtain ⟨a, ns, rfl, ha, k⟩ := h
  refine ⟨_, (pss_cons (ps_set (i := 1) sc_law.nd rfl (Or.inr rfl) (pe_cal c_l_pen hr (pa_cons (pv 0) pa_nil)))
    (pss_cons (ps_for PassesOwn.never rfl (pi_range1 rfl T.range (pa_cons pe_int pa_nil)) (pg_name (i := 2) sc_law.nd rfl (Or.inl rfl))
      (pss_cons (ps_set (i := 3) sc_law.nd rfl (Or.inr rfl) (pe_cal c_l_plan hr (pa_cons (pv 1) (pa_cons pe_int pa_nil))))
    (pss_cons (ps_par (i := 4) (j := 5) rfl sc_law.nd rfl rfl (by decide) rfl rfl (pa_cons (pe_cal c_l_plan_of hr (pa_cons (pv 3) pa_nil)) (pa_cons (pe_callB call_len' (by rfl) T.len (by decide +kernel) (pa_cons (pe_cal c_l_parts hr (pa_cons (pv 3) pa_nil)) pa_nil)) pa_nil)) (by rfl))
    (pss_cons (ps_setLc (i := 6) (own := [("_law_k", 14)]) (g := (gName 14)) (tt := tYes) rfl sc_law.nd rfl rfl (sw_true rfl rfl rfl (by decide +kernel)) (pi_range1 rfl T.range (pa_cons (pe_op op_add pe_int (pe_cal c_l_draw hr (pa_cons (pv 1) (pa_cons pe_int pa_nil)))) pa_nil)) (blkOk_by (own := [("_law_k", 14)]) (N := N_law) (sc := defScope s_law) (by decide +kernel)) (fun _ _ _ _ _ => pg_name (i := 14) sc_law.nd rfl (Or.inl rfl)) (fun _ _ _ _ _ => pts_nil) (fun _ _ _ _ _ => (pe_cal c_l_pattern hr (pa_cons (pv 1) (pa_cons (pv 3) pa_nil)))))
    (pss_cons (ps_for PassesOwn.never rfl (pi_range1 rfl T.range (pa_cons pe_int pa_nil)) (pg_name (i := 7) sc_law.nd rfl (Or.inl rfl))
      (pss_cons (ps_set (i := 8) sc_law.nd rfl (Or.inl rfl) (pe_cal c_l_fall hr (pa_cons (pv 1) (pa_cons (pv 3) pa_nil))))
    (pss_cons (ps_set (i := 9) sc_law.nd rfl (Or.inl rfl) (pe_cal c_l_draw hr (pa_cons (pv 1) (pa_cons (pe_callB call_len' (by rfl) T.len (by decide +kernel) (pa_cons (pv 6) pa_nil)) pa_nil))))
    (pss_cons (ps_for PassesOwn.never rfl (pi_list (pe_cal c_l_near hr (pa_cons (pv 1) (pa_cons (pv 9) (pa_cons (pv 8) (pa_cons (pv 5) pa_nil)))))) (pg_name (i := 10) sc_law.nd rfl (Or.inl rfl))
      (pss_cons (ps_set (i := 11) sc_law.nd rfl (Or.inl rfl) (pe_callB (call_reprX hg hr.units) (by rfl) t_repr (by decide +kernel) (pa_cons (pv 10) pa_nil)))
    (pss_cons (ps_if (pt_cmpR op_ne (pe_callB (call_reprX hg hr.units) (by rfl) t_repr (by decide +kernel) (pa_cons (pe_cal c_is_harm hr (pa_cons (pv 4) (pa_cons (pv 6) (pa_cons (pv 10) pa_nil)))) pa_nil)) (pe_callB (call_reprX hg hr.units) (by rfl) t_repr (by decide +kernel) (pa_cons (pe_cal c_l_is_harm hr (pa_cons (pv 3) (pa_cons (pv 6) (pa_cons (pv 10) pa_nil)))) pa_nil)) (nomark _))
      (pss_one (ps_ret pe_bl))
      pss_nil)
    (pss_one (ps_if (pt_cmpR op_ne (pe_callB (call_reprX hg hr.units) (by rfl) t_repr (by decide +kernel) (pa_cons (pv 10) pa_nil)) (pv 11) (nomark _))
      (pss_one (ps_ret pe_bl))
      pss_nil)))))
    (pss_cons (ps_set (i := 10) sc_law.nd rfl (Or.inl rfl) (pe_tup' (pa_cons (pv 9) (pa_cons (pe_callTy call_list' (by rfl) T.list (by decide +kernel) (pa_cons (pv 8) pa_nil)) pa_nil))))
    (pss_one (ps_for PassesOwn.never rfl (pi_tup (pe_tup' (pa_cons (pv 5) (pa_cons pe_int pa_nil)))) (pg_name (i := 12) sc_law.nd rfl (Or.inl rfl))
      (pss_cons (ps_expr (pe_bm PySem.F.plainAttrs_list PySem.F.slot_list_append PySem.F.type_list_append mt_append (pe_ix ix_seq' (pv 10) pe_int (fun _ _ => rfl)) (pa_cons (pv 12) pa_nil)))
    (pss_cons (ps_if (pt_cmpR op_ne (pe_cal c_is_harm hr (pa_cons (pv 4) (pa_cons (pv 6) (pa_cons (pv 10) pa_nil)))) (pe_cal c_l_is_harm hr (pa_cons (pv 3) (pa_cons (pv 6) (pa_cons (pv 10) pa_nil)))) (nomark _))
      (pss_one (ps_ret pe_bl))
      pss_nil)
    (pss_cons (ps_expr (pe_bm0 PySem.F.plainAttrs_list PySem.F.slot_list_pop PySem.F.type_list_pop mt_pop (pe_ix ix_seq' (pv 10) pe_int (fun _ _ => rfl))))
    (pss_one (ps_if (pt_cmpR op_ne (pe_cal c_is_harm hr (pa_cons (pv 4) (pa_cons (pv 6) (pa_cons (pv 10) pa_nil)))) (pe_cal c_l_is_harm hr (pa_cons (pv 3) (pa_cons (pv 6) (pa_cons (pv 10) pa_nil)))) (nomark _))
      (pss_one (ps_ret pe_bl))
      pss_nil))))))))))))
    (pss_one (ps_if (pt_cmpR (op_ownNe O G_eq b_eq hr) (pv 4) (pe_cal c_l_plan_of hr (pa_cons (pv 3) pa_nil)) (nomark _))
      (pss_one (ps_ret pe_bl))
      pss_nil)))))))
    (pss_cons (ps_set (i := 3) sc_law.nd rfl (Or.inr rfl) (pe_tup' (pa_cons (pe_op op_repT' (pe_tup' (pa_cons pe_int pa_nil)) pe_int) (pa_cons pe_int (pa_cons (pe_lst' (pa_cons (pe_tup' (pa_cons pe_int (pa_cons (pe_op op_repT' (pe_tup' (pa_cons pe_int pa_nil)) pe_int) pa_nil))) (pa_cons pe_non (pa_cons (pe_tup' (pa_cons pe_int (pa_cons (pe_op op_repT' (pe_tup' (pa_cons pe_int pa_nil)) pe_int) pa_nil))) pa_nil)))) pa_nil)))))
    (pss_cons (ps_par (i := 4) (j := 6) rfl sc_law.nd rfl rfl (by decide) rfl rfl (pa_cons (pe_cal c_l_plan_of hr (pa_cons (pv 3) pa_nil)) (pa_cons (pe_lst' (pa_cons (pe_disp (pps_cons pe_int (pe_tup' (pa_cons pe_int pa_nil)) pps_nil) rfl rfl (by simp) (by decide)) (pa_cons (pe_disp (pps_cons pe_int (pe_tup' (pa_cons pe_int pa_nil)) (pps_cons pe_int (pe_tup' (pa_cons pe_int pa_nil)) pps_nil)) rfl rfl (by simp) (by decide)) (pa_cons (pe_disp (pps_cons pe_int (pe_tup' (pa_cons pe_int pa_nil)) (pps_cons pe_int (pe_tup' (pa_cons pe_int pa_nil)) pps_nil)) rfl rfl (by simp) (by decide)) pa_nil)))) pa_nil)) (by rfl))
    (pss_cons (ps_set (i := 13) sc_law.nd rfl (Or.inl rfl) (pe_lst' (pa_cons (pe_listRg rfl (by rfl) T.list (prg_1 (by rfl) T.range pe_int)) (pa_cons (pe_listRg rfl (by rfl) T.list (prg_1 (by rfl) T.range pe_int)) (pa_cons (pe_op op_cat' (pe_listRg rfl (by rfl) T.list (prg_1 (by rfl) T.range pe_int)) (pe_lst' (pa_cons pe_int pa_nil))) (pa_cons (pe_cal c_l_fall hr (pa_cons (pv 1) (pa_cons (pv 3) pa_nil))) (pa_cons (pe_listRg rfl (by rfl) T.list (prg_2 (by rfl) T.range pe_int pe_int)) pa_nil)))))))
    (pss_cons (ps_for PassesOwn.never rfl (pi_list (pv 13)) (pg_name (i := 8) sc_law.nd rfl (Or.inl rfl))
      (pss_one (ps_for PassesOwn.never rfl (pi_range1 rfl T.range (pa_cons pe_int pa_nil)) (pg_name (i := 9) sc_law.nd rfl (Or.inl rfl))
      (pss_one (ps_if (pt_cmpR op_ne (pe_cal c_is_harm hr (pa_cons (pv 4) (pa_cons (pv 6) (pa_cons (pe_tup' (pa_cons (pv 9) (pa_cons (pv 8) pa_nil))) pa_nil)))) (pe_cal c_l_is_harm hr (pa_cons (pv 3) (pa_cons (pv 6) (pa_cons (pe_tup' (pa_cons (pv 9) (pa_cons (pv 8) pa_nil))) pa_nil)))) (nomark _))
      (pss_one (ps_ret pe_bl))
      pss_nil)))))
    (pss_one (ps_ret (pe_cmpR op_is_bl (pe_cal c_is_harm hr (pa_cons (pv 4) (pa_cons (pv 6) (pa_cons (pe_tup' (pa_cons pe_int (pa_cons (pe_listRg rfl (by rfl) T.list (prg_1 (by rfl) T.range pe_int)) pa_nil))) pa_nil)))) pe_bl (nomark _)))))))))), ?_⟩
  refine ⟨_, rfl, a, ns, rfl, ha, fun q H1 s1 nqp nqc pn1 => ⟨5, rfl, by decide, by decide, for_range (n := 5) (lo := 0) (fun i σ' H' => ∃ v2 v3 v4 v5 v6 v7 v8 v9 v10 v11 v12, σ' = [some (.ref a), some (.ref q.p), v2, v3, v4, v5, v6, v7, v8, v9, v10, v11, v12, none, none] ∧ Pen q (10000 * i) H') ?_ ?_ ?_⟩⟩
  · exact ⟨_, _, _, _, _, _, _, _, _, _, _, rfl, pn1⟩
  · rintro i σ' H2 hi ⟨v2, v3, v4, v5, v6, v7, v8, v9, v10, v11, v12, rfl, pn2⟩
    clear ha s1
    refine ⟨_, rfl, q, _, 5, rfl, pn2, by omega, by decide, by decide, fun pv H3 pl g3 hv gd0 c5 => ?_⟩
    have good : OkP pl := OkP.of gd0 (by decide) (by decide)
    have o24 := good.c24
    have w0 : 0 < pl.w := by have := good.w1; omega
    have wl : ∀ f ws, some (f, ws) ∈ pl.sts → ws.length ≤ 100 := fun f ws hm => by
      obtain ⟨o1, _, o3, _⟩ := good.st _ hm
      omega
    have osl := good.sl
    have opc := good.pc
    obtain ⟨ta, ca, sa, xs, rfl, p1, p2, p3, p4, p5⟩ := hv.ex
    have xl := paired_len p5
    refine ⟨_, rfl, q.p, .ref ta, pl, rfl, hv, good, fun x H5 s5 hx0 => ?_⟩
    obtain ⟨lp, hlp⟩ := g3.pen.lst
    have hx5 := hx0.w (p := q.p) hlp
    have pn5 := g3.pen.same s5
    refine ⟨_, rfl, ta, ca, sa, pl.w, xs, pl.sts, rfl, s5 _ _ p1, s5 _ _ p4, steps_same s5 p5, w0, by omega, wl, fun l H6 ys s6 n6 h6 py => ⟨l, _, rfl, .inl h6, _, _, rfl, ?_⟩⟩
    have yl : ys.length ≤ 40 := by rw [paired_len py]; exact opc
    have s56 := s5.trans s6
    have f1 := s56 _ _ p1
    have f2 := s56 _ _ p2
    have f4 := s56 _ _ p4
    have f5 := steps_same s56 p5
    have x6 := hx5.same s6
    have pn6 := pn5.same s6
    generalize hmy : ((ys.length : Nat) : Int) = many
    have m0 : 0 ≤ many := by omega
    have m1 : many ≤ 40 := by omega
    clear hv p1 p2 p4 p5 s5 hx0 hlp s6 n6 h6 py s56 hx5 pn5 gd0 g3 hmy yl
    -- the guards
    refine ⟨_, rfl, q, _, 5, rfl, by decide, by decide, pn6, by omega, fun gn H7 d0 d1 g7 => ⟨_, _, rfl, rfl, _, rfl, by omega, by omega, fun D hD => lc_range (lo := 0) (n := (1 + gn).toNat) (fun j H' => ∃ ds gs, Go q (10000 * i + 2101 + 400 * j) H6 H' ∧ H' D = some (.lst ds) ∧ ds.length = j ∧ Paired (PatE H') ds gs ∧ (∀ ps ∈ gs, OkPt pl.cs.length ps ∧ ps.length ≤ 24)) ?_ ?_ ?_⟩⟩
    · exact ⟨[], [], (g7.mono (by omega)).same (same_new hD), upd_same, rfl, .nil, fun ps hp => by cases hp⟩
    · rintro j H' hj ⟨ds, gs, g, hl, dl, dp, dok⟩
      have pg := g7.pen
      have nD := (pg.free hD).1
      have n6 : H6 D = none := g7.none pn6 hD
      refine ⟨rfl, _, rfl, _, rfl, q, _, ta, ca, sa, pl.w, xs, pl.sts, pl.cs, rfl, g.pen, by omega, g.kp.tup f1, g.kp.tup f2, g.kp.lst p3 f4, p3, steps_kp g.kp f5, w0, by omega, wl, good.st, o24, good.cb, opc, fun d H'' ps g2 n8 pt8 op8 l8 => ?_⟩
      have hD2 := g2.kp.lst nD hl
      refine ⟨_, hD2, szl (by omega), ds ++ [.ref d], gs ++ [ps], Go.mut pn6 n6 ((g.trans g2).mono (by omega)), upd_same, by rw [List.length_append, dl]; rfl, ?_, fun e he => ?_⟩
      · exact L2.Paired.mapP (paired_app (L2.Paired.mapP dp fun _ _ z => z.kp g2.kp) (.cons ⟨d, rfl, pt8⟩ .nil)) fun _ _ z => z.kp (kp_updL hD2)
      · rcases List.mem_append.mp he with he | he
        · exact dok e he
        · rw [List.mem_singleton.mp he]
          exact ⟨op8, by omega⟩
    rintro H8 ⟨ds, gs, g8, h8, dl, dp, dok⟩
    have nD : D ≠ q.p := (g7.pen.free hD).1
    have gl : gs.length = (1 + gn).toNat := by rw [← paired_len dp]; exact dl
    have gd : GdV H8 D pl.cs.length gs := ⟨⟨ds, h8, dp⟩, dok, by omega⟩
    have x8 := x6.kp g8.kp
    have e1 := g8.kp.tup f1
    have e2 := g8.kp.tup f2
    have e4 := g8.kp.lst p3 f4
    have e5 := steps_kp g8.kp f5
    have pn8 : Pen q (10000 * i + 4200) H8 := g8.pen.mono (by omega)
    have dl' : ds.length = gs.length := paired_len dp
    clear g7 hD g8 x6 f1 f2 f4 f5 pn6 dok dp dl
    -- whether a thing is harm, asked twice
    obtain ⟨sl, ql, el, pF, z1, z2, z3⟩ := x8.ex
    have xF : ∀ {H' : Hp}, Kp q.p H8 H' → PlanF C H' x pl sl ql el := fun kp => pF.kp kp z1 z2 z3
    have gF : ∀ {H' : Hp}, Kp q.p H8 H' → GdV H' D pl.cs.length gs := fun kp => gd.kp kp nD
    have vF : ∀ {H' : Hp}, Kp q.p H8 H' → PlanV q.p H' (.ref ta) pl := fun kp => ⟨ta, ca, sa, xs, rfl, kp.tup e1, kp.tup e2, p3, kp.lst p3 e4, steps_kp kp e5⟩
    refine ⟨3, rfl, by decide, by decide, for_range (n := 3) (lo := 0) (fun j σ' H' => ∃ v7 v8 v9 v10 v11 v12, σ' = [some (.ref a), some (.ref q.p), some (.int (0 + (i : Int))), some (.ref ta), some x, some (.int many), some (.ref D), v7, v8, v9, v10, v11, v12, none, none] ∧ Go q (10000 * i + 4200 + 200 * j) H8 H') ?_ ?_ ?_⟩
    · exact ⟨_, _, _, _, _, _, rfl, Go.refl pn8⟩
    · rintro j σ' H9 hj ⟨v7, v8, v9, v10, v11, v12, rfl, g9⟩
      refine ⟨_, rfl, _, rfl, q, _, ta, ca, sa, pl.w, xs, pl.sts, rfl, g9.pen, by omega, g9.kp.tup e1, g9.kp.lst p3 e4, steps_kp g9.kp e5, w0, by omega, wl, opc, fun fo Ha ls ga na ha ll lb lw => ?_⟩
      have Ga := g9.trans ga
      have nfo := (g9.pen.free na).1
      refine ⟨_, rfl, _, rfl, D, _, rfl, .inl (Ga.kp.lst nD h8), q, _, _, rfl, by omega, by omega, ga.pen, by omega, fun ix Hb i0 i1 gb => ?_⟩
      have Gb := Ga.trans gb
      have hfo := gb.kp.lst nfo ha
      refine ⟨_, rfl, _, rfl, _, rfl, _, rfl, q, _, ix, many, fo, ls, rfl, gb.pen, by omega, i0, by omega, m0, by omega, hfo, nfo, ll, fun p hp => by have := lb p hp; omega, fun f Hc gc fx => ?_⟩
      obtain ⟨fd, qf, tf, lf⟩ := fx
      obtain ⟨_, fxs, ef, hf, tx⟩ := dx_ref qf
      cases ef
      have Gc := Gb.trans gc
      have hfc := gc.kp.lst nfo hfo
      refine ⟨f, rfl, ⟨_, SqL.of (hd_in _ _ hf)⟩, for_list (K := K) (a := f) (xs := fxs) (fun n σ' H' => ∃ v10 v11, σ' = [some (.ref a), some (.ref q.p), some (.int (0 + (i : Int))), some (.ref ta), some x, some (.int many), some (.ref D), some (.int (0 + (j : Int))), some (.ref fo), some (.int ix), v10, v11, v12, none, none] ∧ Same Hc H') ?_ ?_ ?_ ?_⟩
      · exact ⟨_, _, rfl, Same.refl _⟩
      · rintro n σ' H' _ ⟨_, _, _, s⟩
        exact SqL.of (s _ _ (hd_in _ _ hf))
      · rintro n y σ' H' hy ⟨v10, v11, rfl, s⟩
        obtain ⟨dy, hdy, dxy⟩ := tx.at hy
        have ny := tf dy (List.mem_of_getElem? hdy)
        have dxy : Dx K Hc y dy := Dx.same hd_in dxy
        have bs := ny.b.sh
        have bdp : dy.depth ≤ 60 := Nat.le_trans ny.b.dp (by decide)
        have btx : dy.shown.length ≤ sizeLine := Nat.le_trans ny.b.tx (by decide)
        have kp : Kp q.p H8 H' := (Gc.same s).kp
        refine ⟨_, rfl, _, _, rfl, Dx.same s dxy, bs, bdp, btx, ?_⟩
        refine ⟨_, rfl, _, rfl, _, rfl, x, pl, sl, ql, el, D, gs, _, _, rfl, xF kp, gF kp, (Dx.same s dxy), ny.z, fun Hd sd => ?_⟩
        refine ⟨_, _, rfl, .bl _, rfl, bl_dp, bl_tx, ?_⟩
        refine ⟨_, rfl, _, rfl, _, rfl, q.p, ta, pl, D, gs, _, _, rfl, vF (kp.trans (Kp.same sd)), good, gF (kp.trans (Kp.same sd)), (Dx.same (s.trans sd) dxy), ny.z, fun He se => ?_⟩
        refine ⟨_, _, rfl, .bl _, rfl, bl_dp, bl_tx, rfl, _, rfl, ite2 (fun z => ?_) (fun _ => ?_)⟩
        · exfalso
          simp at z
        have S := s.trans (sd.trans se)
        refine ⟨_, rfl, _, _, rfl, Dx.same S dxy, bs, bdp, btx, _, rfl, rfl, _, rfl, ite2 (fun z => ?_) (fun _ => ?_)⟩
        · exfalso
          generalize dy.shown = txx at z
          simp at z
        exact ⟨_, _, rfl, S⟩
      rintro σ' Hx ⟨v10, v11, rfl, sx⟩
      have hfx := sx _ _ hfc
      have Gx := Gc.same sx
      -- the list in a thing changes
      refine ⟨_, rfl, _, rfl, fo, _, rfl, .inl hfx, fun b Hy ny sy hy => ⟨szr, fun tp Hz nz sz' hz => ?_⟩⟩
      refine ⟨_, rfl, szr, fun tu Ht nt st ht => ⟨tu, rfl, ⟨_, SqT.of ht⟩, for_tup (K := K) (a := tu) (xs := [V.int many, .int 0]) (fun n σ' H' => ∃ v12, σ' = [some (.ref a), some (.ref q.p), some (.int (0 + (i : Int))), some (.ref ta), some x, some (.int many), some (.ref D), some (.int (0 + (j : Int))), some (.ref fo), some (.int ix), some (.ref tp), v11, v12, none, none] ∧ Same Hx H' ∧ H' tp = some (.tup [.int ix, .ref b]) ∧ H' b = some (.lst (nvs ls)) ∧ H' tu = some (.tup [V.int many, .int 0])) ?_ ?_ ?_ ?_⟩⟩
      · exact ⟨_, rfl, sy.trans (sz'.trans st), st _ _ hz, st _ _ (sz' _ _ hy), ht⟩
      · rintro n σ' H' _ ⟨_, _, _, _, _, e⟩
        exact SqT.of e
      · rintro n y σ' H' hy' ⟨v12, rfl, sh, htp, hb, htu⟩
        obtain ⟨z, rfl⟩ : ∃ z, y = V.int z := by
          have := List.mem_of_getElem? hy'
          simp only [List.mem_cons, List.not_mem_nil, or_false] at this
          rcases this with rfl | rfl
          · exact ⟨_, rfl⟩
          · exact ⟨_, rfl⟩
        have bt : tp ≠ b := ne_tl htp hb
        have bu : tu ≠ b := ne_tl htu hb
        refine ⟨_, rfl, tp, _, 1, _, rfl, rfl, .inr htp, rfl, .inl ⟨rfl, _, SqL.of hb⟩, _, rfl, b, _, _, rfl, rfl, hb, szl (by rw [nvs_len]; omega), ?_⟩
        have S1 : Same Hx (upd H' b (.lst (nvs ls ++ [V.int z]))) := same_mut sh ny
        have t1 : (upd H' b (.lst (nvs ls ++ [V.int z]))) tp = some (.tup [.int ix, .ref b]) := by rw [upd_ne bt]; exact htp
        have u1 : (upd H' b (.lst (nvs ls ++ [V.int z]))) tu = some (.tup [V.int many, .int 0]) := by rw [upd_ne bu]; exact htu
        have b1 : (upd H' b (.lst (nvs ls ++ [V.int z]))) b = some (.lst (nvs ls ++ [V.int z])) := upd_same
        generalize upd H' b (.lst (nvs ls ++ [V.int z])) = I1 at S1 t1 u1 b1
        have d1 : ∀ {I : Hp}, Same I1 I → Dx K I (.ref tp) (.tuple [.int ix, .list (dvs (ls.map fun p => ((p : Nat) : Int)) ++ [.int z])]) := fun {I} s => .tup (s _ _ t1) (.cons (.int _) (.cons (.lst (s _ _ b1) ((dx_nvs ls).app (.cons (.int _) .nil))) .nil))
        have z1 := szh_two (i := ix) (ds := dvs (ls.map fun p => ((p : Nat) : Int)) ++ [.int z]) (by rw [List.length_append, dvs_lenX]; show _ + 1 ≤ 60; omega)
        have kp1 : Kp q.p H8 I1 := (Gx.same S1).kp
        refine ⟨_, rfl, _, rfl, _, rfl, x, pl, sl, ql, el, D, gs, _, _, rfl, xF kp1, gF kp1, (d1 (Same.refl _)), z1, fun I2 s2 => ?_⟩
        refine ⟨_, rfl, _, rfl, _, rfl, q.p, ta, pl, D, gs, _, _, rfl, vF (kp1.trans (Kp.same s2)), good, gF (kp1.trans (Kp.same s2)), (d1 s2), z1, fun I3 s3 => ?_⟩
        refine ⟨rfl, _, rfl, ite2 (fun z => ?_) (fun _ => ?_)⟩
        · exfalso
          simp at z
        have S13 := s2.trans s3
        have b3 := S13 _ _ b1
        refine ⟨_, rfl, tp, _, 1, _, rfl, rfl, .inr (S13 _ _ t1), rfl, .inl ⟨rfl, _, SqL.of b3⟩, b, _, _, rfl, rfl, b3, last_snoc, ?_⟩
        have S4 : Same Hx (upd I3 b (.lst (nvs ls ++ [V.int z]).dropLast)) := same_mut (S1.trans S13) ny
        have t4 : (upd I3 b (.lst (nvs ls ++ [V.int z]).dropLast)) tp = some (.tup [.int ix, .ref b]) := by rw [upd_ne bt]; exact S13 _ _ t1
        have u4 : (upd I3 b (.lst (nvs ls ++ [V.int z]).dropLast)) tu = some (.tup [V.int many, .int 0]) := by rw [upd_ne bu]; exact S13 _ _ u1
        have b4 : (upd I3 b (.lst (nvs ls ++ [V.int z]).dropLast)) b = some (.lst (nvs ls)) := by rw [upd_same, List.dropLast_concat]
        generalize upd I3 b (.lst (nvs ls ++ [V.int z]).dropLast) = I4 at S4 t4 u4 b4
        have d4 : ∀ {I : Hp}, Same I4 I → Dx K I (.ref tp) (.tuple [.int ix, .list (dvs (ls.map fun p => ((p : Nat) : Int)))]) := fun {I} s => .tup (s _ _ t4) (.cons (.int _) (.cons (.lst (s _ _ b4) (dx_nvs ls)) .nil))
        have z4 := szh_two (i := ix) (ds := dvs (ls.map fun p => ((p : Nat) : Int))) (by rw [dvs_lenX]; omega)
        have kp4 : Kp q.p H8 I4 := (Gx.same S4).kp
        refine ⟨_, rfl, _, rfl, _, rfl, x, pl, sl, ql, el, D, gs, _, _, rfl, xF kp4, gF kp4, (d4 (Same.refl _)), z4, fun I5 s5 => ?_⟩
        refine ⟨_, rfl, _, rfl, _, rfl, q.p, ta, pl, D, gs, _, _, rfl, vF (kp4.trans (Kp.same s5)), good, gF (kp4.trans (Kp.same s5)), (d4 s5), z4, fun I6 s6 => ?_⟩
        refine ⟨rfl, _, rfl, ite2 (fun z => ?_) (fun _ => ?_)⟩
        · exfalso
          simp at z
        have S46 := s5.trans s6
        exact ⟨_, rfl, S4.trans S46, S46 _ _ t4, S46 _ _ b4, S46 _ _ u4⟩
      · rintro σ' H' ⟨v12, rfl, sh, _⟩
        exact ⟨_, _, _, _, _, _, rfl, (Gx.same sh).mono (by omega)⟩
    · rintro σ' H9 ⟨v7, v8, v9, v10, v11, v12, rfl, g9⟩
      refine ⟨_, rfl, _, rfl, q.p, .ref ta, pl, rfl, ⟨ta, ca, sa, xs, rfl, g9.kp.tup e1, g9.kp.tup e2, p3, g9.kp.lst p3 e4, steps_kp g9.kp e5⟩, good, fun z Ha sa' hz0 => ?_⟩
      obtain ⟨lp9, hlp9⟩ := g9.pen.lst
      have hz := hz0.w (p := q.p) hlp9
      refine ne_ins TC ((x8.kp g9.kp).same sa').i hz.i ?_
      rw [same_refl]
      refine ⟨_, rfl, iteF ?_⟩
      exact ⟨_, _, _, _, _, _, _, _, _, _, _, rfl, (g9.pen.same sa').mono (by omega)⟩
  · rintro σ' H2 ⟨v2, v3, v4, v5, v6, v7, v8, v9, v10, v11, v12, rfl, pn2⟩
    have pn3 := pn2.mono (m' := 60000) (by omega)
    clear pn2
    refine ⟨szr, fun za I1 n1 s1 h1 => ⟨za, 24, _, rfl, rfl, h1, by simp, by decide, by decide, by decide, fun c1 I2 s2 h2 => ?_⟩⟩
    refine ⟨szr, fun zb I3 n3 s3 h3 => ⟨zb, 24, _, rfl, rfl, h3, by simp, by decide, by decide, by decide, fun w1 I4 s4 h4 => ⟨szr, fun t1 I5 n5 s5 h5 => ?_⟩⟩⟩
    refine ⟨szr, fun zc I6 n6 s6 h6 => ⟨zc, 16, _, rfl, rfl, h6, by simp, by decide, by decide, by decide, fun w2 I7 s7 h7 => ⟨szr, fun t2 I8 n8 s8 h8 => ?_⟩⟩⟩
    refine ⟨szr, fun sl0 I9 n9 s9 h9 => ⟨szr, fun tp Ia na sa ha => ?_⟩⟩
    have r8 := s9.trans sa
    have r5 := s6.trans (s7.trans (s8.trans r8))
    have r2 := s3.trans (s4.trans (s5.trans r5))
    have pe := pn3.same (s1.trans (s2.trans r2))
    have nsl := ((pn3.same (s1.trans (s2.trans (s3.trans (s4.trans (s5.trans (s6.trans (s7.trans s8)))))))).free n9).1
    have hv : PlanV q.p Ia (.ref tp) plH := ⟨tp, c1, sl0, _, rfl, ha, r2 _ _ h2, nsl, sa _ _ h9, .cons ⟨t1, w1, rfl, r5 _ _ h5, r5 _ _ (s5 _ _ h4)⟩ (.cons rfl (.cons ⟨t2, w2, rfl, r8 _ _ h8, r8 _ _ (s8 _ _ h7)⟩ .nil))⟩
    clear h1 h2 h3 h4 h5 h6 h7 h8 h9 ha s1 s2 s3 s4 s5 s6 s7 s8 s9 sa r8 r5 r2 n1 n3 n5 n6 n8 n9 na nsl pn3
    refine ⟨_, rfl, q.p, .ref tp, plH, rfl, hv, okH, fun x Ib sb hx0 => ?_⟩
    obtain ⟨lp, hlp⟩ := pe.lst
    obtain ⟨sl, ql, el, pF, z1, z2, z3⟩ := (hx0.w (p := q.p) hlp).ex
    clear hx0 hlp
    dsimp only [tCons, tLst']
    refine disp_pat [(23, 2)] (by decide) (by decide) fun g1 Ic sc nc pc => ?_
    refine disp_pat [(0, 0), (7, 1)] (by decide) (by decide) fun g2 Id sd nd pd => ?_
    refine disp_pat [(8, 2), (9, 1)] (by decide) (by decide) fun g3 Ie se ne pe3 => ?_
    refine ⟨szr, fun G Ig ng sg hg => ⟨_, _, rfl, ?_⟩⟩
    have S1 := sc.trans (sd.trans (se.trans sg))
    have gd : GdV Ig G 24 gsH := ⟨⟨_, hg, .cons ⟨g1, rfl, pc.same (sd.trans (se.trans sg))⟩ (.cons ⟨g2, rfl, pd.same (se.trans sg)⟩ (.cons ⟨g3, rfl, pe3.same sg⟩ .nil))⟩, okG3, by decide⟩
    have peg := pe.same (sb.trans S1)
    have nG : G ≠ q.p := ((pe.same (sb.trans (sc.trans (sd.trans se)))).free ng).1
    have hv1 := hv.same (sb.trans S1)
    have pF1 := pF.same S1
    clear hg pc pd pe3 sc sd se sg nc nd ne ng pF hv S1 pe sb
    obtain ⟨ta, ca, sa, xs, et, p1, p2, p3, p4, p5⟩ := hv1.ex
    cases et
    -- the rows
    refine ⟨40, rfl, RgOk.of_le (by decide) (by decide) (by decide) (by decide), fun r1 m1 => ⟨39, rfl, RgOk.of_le (by decide) (by decide) (by decide) (by decide), fun r2 m2 => ⟨24, rfl, RgOk.of_le (by decide) (by decide) (by decide) (by decide), fun r3 m3 => ?_⟩⟩⟩
    have T1 := same_new (o := .lst (rgV 0 40)) m1
    have T2 := same_new (o := .lst (rgV 0 39)) m2
    have T3 := same_new (o := .lst (rgV 0 24)) m3
    have k1 : (upd Ig r1 (.lst (rgV 0 40))) r1 = some (.lst (rgV 0 40)) := upd_same
    have k2 : (upd (upd Ig r1 (.lst (rgV 0 40))) r2 (.lst (rgV 0 39))) r2 = some (.lst (rgV 0 39)) := upd_same
    have k3 : (upd (upd (upd Ig r1 (.lst (rgV 0 40))) r2 (.lst (rgV 0 39))) r3 (.lst (rgV 0 24))) r3 = some (.lst (rgV 0 24)) := upd_same
    have q1 := (peg.free m1).1
    have q2 := ((peg.same T1).free m2).1
    generalize upd (upd (upd Ig r1 (.lst (rgV 0 40))) r2 (.lst (rgV 0 39))) r3 (.lst (rgV 0 24)) = J3 at T3 k3 ⊢
    generalize upd (upd Ig r1 (.lst (rgV 0 40))) r2 (.lst (rgV 0 39)) = J2 at T2 k2 T3
    generalize upd Ig r1 (.lst (rgV 0 40)) = J1 at T1 k1 T2
    refine ⟨szr, fun l4 J4 n4 s4 h4 => ⟨r3, l4, _, _, rfl, rfl, s4 _ _ k3, h4, by rw [rgV_length]; exact szr, fun r4 J5 n5 s5 h5 => ?_⟩⟩
    have q4 := ((peg.same (T1.trans (T2.trans (T3.trans s4)))).free n5).1
    have U := T1.trans (T2.trans (T3.trans (s4.trans s5)))
    refine ⟨_, rfl, _, rfl, q, _, _, ca, sa, 1, xs, plH.sts, rfl, peg.same U, by decide, U _ _ p1, U _ _ p4, steps_same U p5, by decide, by rw [paired_len p5]; decide, ?_, okH.pc, fun fo J6 ls g6 n6 h6 ll lb lw => ?_⟩
    · intro f ws hm
      have := (okH.st _ hm).2.2.1
      have c : plH.cs.length = 24 := by decide
      have := (okH.st _ hm).1
      omega
    refine ⟨1, 40, rfl, rfl, RgOk.of_le (by decide) (by decide) (by decide) (by decide), fun r6 m6 => ⟨szr, fun R J8 n8 s8 h8 => ?_⟩⟩
    have T6 := same_new (o := .lst (rgV 1 40)) m6
    have k6 : (upd J6 r6 (.lst (rgV 1 40))) r6 = some (.lst (rgV 1 40)) := upd_same
    generalize upd J6 r6 (.lst (rgV 1 40)) = J7 at T6 k6 s8 n8
    have KP : Kp q.p Ig J8 := (Kp.same U).trans (g6.kp.trans (Kp.same (T6.trans s8)))
    have xF := pF1.kp KP z1 z2 z3
    have gF := gd.kp KP nG
    have vF := hv1.kp KP
    have up : Kp q.p J5 J8 := g6.kp.trans (Kp.same (T6.trans s8))
    have rows : ∀ y ∈ [V.ref r1, .ref r2, .ref r4, .ref fo, .ref r6], ∃ d, Dx K J8 y d ∧ SzF d := by
      refine all5 ?_ ?_ ?_ ?_ ?_
      · exact ⟨_, .lst (up.lst q1 (s5 _ _ (s4 _ _ (T3 _ _ (T2 _ _ k1))))) dx_rg, szf_l (by rw [rgD_len]; decide)⟩
      · exact ⟨_, .lst (up.lst q2 (s5 _ _ (s4 _ _ (T3 _ _ k2)))) dx_rg, szf_l (by rw [rgD_len]; decide)⟩
      · exact ⟨_, .lst (up.lst q4 h5) (dx_rg.app (.cons (.int 24) .nil)), szf_l (by rw [List.length_append, rgD_len]; decide)⟩
      · exact ⟨_, .lst (s8 _ _ (T6 _ _ h6)) (dx_nvs ls), szf_l (by rw [dvs_lenX]; omega)⟩
      · exact ⟨_, .lst (s8 _ _ k6) dx_rg, szf_l (by rw [rgD_len]; decide)⟩
    clear up KP k6 T6 g6 n6 h6 U q4 n5 h5 s5 n4 s4 h4 T3 T2 T1 k1 k2 k3 gd hv1 pF1 p1 p2 p4 p5 lb lw peg m1 m2 m3 m6 s8 n8
    refine ⟨_, rfl, R, rfl, ⟨_, SqL.of h8⟩, for_list (K := K) (a := R) (xs := [V.ref r1, .ref r2, .ref r4, .ref fo, .ref r6]) (fun n σ' H' => ∃ v8 v9, σ' = [some (.ref a), some (.ref q.p), v2, some (.ref tp), some x, v5, some (.ref G), v7, v8, v9, v10, v11, v12, some (.ref R), none] ∧ Same J8 H') ?_ ?_ ?_ ?_⟩
    · exact ⟨_, _, rfl, Same.refl _⟩
    · rintro n σ' H' _ ⟨_, _, _, s⟩
      exact SqL.of (s _ _ h8)
    · rintro n y σ' H' hy ⟨v8, v9, rfl, s⟩
      obtain ⟨d, dxy, sz⟩ := rows y (List.mem_of_getElem? hy)
      refine ⟨3, rfl, by decide, by decide, for_range (n := 3) (lo := 0) (fun n2 σ' H' => ∃ v9, σ' = [some (.ref a), some (.ref q.p), v2, some (.ref tp), some x, v5, some (.ref G), v7, some y, v9, v10, v11, v12, some (.ref R), none] ∧ Same J8 H') ?_ ?_ ?_⟩
      · exact ⟨_, rfl, s⟩
      · rintro n2 σ' H'' _ ⟨v9, rfl, s⟩
        refine ⟨_, rfl, _, rfl, _, rfl, _, rfl, szr, fun u1 K1 y1 t1 h1 => ⟨x, plH, sl, ql, el, G, gsH, .ref u1, _, rfl, xF.same (s.trans t1), gF.same (s.trans t1), .tup h1 (.cons (.int _) (.cons (Dx.same (s.trans t1) dxy) .nil)), szh_pr sz, fun K2 t2 => ?_⟩⟩
        have S2 := s.trans (t1.trans t2)
        refine ⟨_, rfl, _, rfl, _, rfl, _, rfl, szr, fun u3 K3 y3 t3 h3 => ⟨q.p, tp, plH, G, gsH, .ref u3, _, rfl, vF.same (S2.trans t3), okH, gF.same (S2.trans t3), .tup h3 (.cons (.int _) (.cons (Dx.same (S2.trans t3) dxy) .nil)), szh_pr sz, fun K4 t4 => ?_⟩⟩
        refine ⟨rfl, _, rfl, ite2 (fun z => ?_) (fun _ => ?_)⟩
        · exfalso
          simp at z
        exact ⟨_, rfl, S2.trans (t3.trans t4)⟩
      · rintro σ' H'' ⟨v9, rfl, s⟩
        exact ⟨_, _, rfl, s⟩
    rintro σ' H' ⟨v8, v9, rfl, s⟩
    refine ⟨_, rfl, _, rfl, 40, rfl, RgOk.of_le (by decide) (by decide) (by decide) (by decide), fun r7 m7 => ⟨szr, fun u7 L1 n1 s1 h1 => ?_⟩⟩
    have T7 := same_new (o := .lst (rgV 0 40)) m7
    have k7 : (upd H' r7 (.lst (rgV 0 40))) r7 = some (.lst (rgV 0 40)) := upd_same
    generalize upd H' r7 (.lst (rgV 0 40)) = L0 at T7 k7 s1 n1
    have S7 := s.trans (T7.trans s1)
    refine ⟨x, plH, sl, ql, el, G, gsH, .ref u7, .tuple [.int 0, .list (rgD 0 40)], rfl, xF.same S7, gF.same S7, .tup h1 (.cons (.int _) (.cons (.lst (s1 _ _ k7) dx_rg) .nil)), szh_pr (szf_l (by rw [rgD_len]; decide)), fun L2 s2 => ?_⟩
    rw [harm_all]
    exact ⟨_, _, rfl, rfl, k L2⟩
end
end Af

set_option Elab.async false
set_option linter.all false
set_option maxRecDepth 100000
set_option maxHeartbeats 4000000
namespace Af
open PySem L2
def tyV : Value → Bool
  | .type _ => true
  | _ => false
theorem mro_ty : ∀ n ∈ tyNames, (fastBuiltinMro n).elim false (·.all tyV) = true := by decide +kernel
theorem sub_ty {K : PySem.W.Frag} {C : Addr} {n : String} (h : n ∈ tyNames) : PySem.W.subIn K (.type n) (.ref C) = some false := by
  have q := mro_ty n h
  show (fastBuiltinMro n).map (·.contains (.ref C)) = some false
  cases e : fastBuiltinMro n with
  | none =>
    rw [e] at q
    cases q
  | some l =>
    rw [e] at q
    show some (l.contains (.ref C)) = some false
    congr 1
    refine Bool.eq_false_iff.mpr fun z => ?_
    have m : Value.ref C ∈ l := by simpa using z
    have := List.all_eq_true.mp q _ m
    cases this
theorem is_own {K : PySem.W.Frag} {t : Value} : PySem.W.kitOne K t t = some true := by
  unfold PySem.W.kitOne
  rw [if_pos (by simp)]
theorem is_no {K : PySem.W.Frag} {C D : Addr} (ic : PySem.W.isClsIn K D = true) (tc : PySem.W.typeIn K (.ref D) = some (.type "type")) (s : PySem.W.subIn K (.ref C) (.ref D) = some false) (n : (Value.ref C == Value.ref D) = false) : PySem.W.kitOne K (.ref C) (.ref D) = some false := by
  unfold PySem.W.kitOne
  rw [if_neg (by rw [n]; decide)]
  show (if ((PySem.W.clsIn K D).isSome && PySem.W.typeIn K (.ref D) == some (.type "type")) = true then PySem.W.subIn K (.ref C) (.ref D) else none) = some false
  rw [if_pos (by rw [tc, show (PySem.W.clsIn K D).isSome = true from ic]; simp)]
  exact s
theorem any_no {K : PySem.W.Frag} {C : Value} {D : Value} {l : List Value} (h : PySem.W.kitOne K C D = some false) (t : PySem.W.kitAny K C l = some false) : PySem.W.kitAny K C (D :: l) = some false :=
  kitAny_cons h (fun _ => t) (fun z => by cases z)
theorem first_not {K : PySem.W.Frag} {C : Addr} {n : String} (h : n ∈ tyNames) : PySem.W.notFirst K C (.type n) = true := by
  unfold PySem.W.notFirst
  rw [sub_ty h]
  simp
theorem is_not {K : PySem.W.Frag} {C : Addr} {n : String} (h : n ∈ tyNames) (ic : PySem.W.isClsIn K C = true) (tc : PySem.W.typeIn K (.ref C) = some (.type "type")) : PySem.W.kitOne K (.type n) (.ref C) = some false := by
  unfold PySem.W.kitOne
  rw [if_neg (by simp)]
  show (if ((PySem.W.clsIn K C).isSome && PySem.W.typeIn K (.ref C) == some (.type "type")) = true then PySem.W.subIn K (.type n) (.ref C) else none) = some false
  rw [if_pos (by rw [tc, show (PySem.W.clsIn K C).isSome = true from ic]; simp)]
  exact sub_ty h
theorem all_mk {l : PySem.W.OpenLaw} {w : World} {K : PySem.W.Frag} {h : Heap} {mg : Str → Option Value} {fa C : Addr} (X : K.In h) (G : h.Ns mainGlobals mg) (hfa : mg "law" = some (.ref fa))
    {f1 : Addr} {od1 an1 : Option Addr} {sl1 : Array (Option Value)} {oc1 kV1 dc1 pm1 cd1 ct1 : Value}
    {f2 : Addr} {od2 an2 : Option Addr} {sl2 : Array (Option Value)} {oc2 kV2 dc2 pm2 cd2 ct2 : Value}
    {f3 : Addr} {od3 an3 : Option Addr} {sl3 : Array (Option Value)} {oc3 kV3 dc3 pm3 cd3 ct3 : Value}
    {f4 : Addr} {od4 an4 : Option Addr} {sl4 : Array (Option Value)} {oc4 kV4 dc4 pm4 cd4 ct4 : Value}
    {f5 : Addr} {od5 an5 : Option Addr} {sl5 : Array (Option Value)} {oc5 kV5 dc5 pm5 cd5 ct5 : Value}
    {f6 : Addr} {od6 an6 : Option Addr} {sl6 : Array (Option Value)} {oc6 kV6 dc6 pm6 cd6 ct6 : Value}
    {f7 : Addr} {od7 an7 : Option Addr} {sl7 : Array (Option Value)} {oc7 kV7 dc7 pm7 cd7 ct7 : Value}
    {f8 : Addr} {od8 an8 : Option Addr} {sl8 : Array (Option Value)} {oc8 kV8 dc8 pm8 cd8 ct8 : Value}
    {f9 : Addr} {od9 an9 : Option Addr} {sl9 : Array (Option Value)} {oc9 kV9 dc9 pm9 cd9 ct9 : Value}
    {f10 : Addr} {od10 an10 : Option Addr} {sl10 : Array (Option Value)} {oc10 kV10 dc10 pm10 cd10 ct10 : Value}
    {f11 : Addr} {od11 an11 : Option Addr} {sl11 : Array (Option Value)} {oc11 kV11 dc11 pm11 cd11 ct11 : Value}
    {f12 : Addr} {od12 an12 : Option Addr} {sl12 : Array (Option Value)} {oc12 kV12 dc12 pm12 cd12 ct12 : Value}
    {f13 : Addr} {od13 an13 : Option Addr} {sl13 : Array (Option Value)} {oc13 kV13 dc13 pm13 cd13 ct13 : Value}
    {f14 : Addr} {od14 an14 : Option Addr} {sl14 : Array (Option Value)} {oc14 kV14 dc14 pm14 cd14 ct14 : Value}
    {f15 : Addr} {od15 an15 : Option Addr} {sl15 : Array (Option Value)} {oc15 kV15 dc15 pm15 cd15 ct15 : Value}
    {f16 : Addr} {od16 an16 : Option Addr} {sl16 : Array (Option Value)} {oc16 kV16 dc16 pm16 cd16 ct16 : Value}
    {f17 : Addr} {od17 an17 : Option Addr} {sl17 : Array (Option Value)} {oc17 kV17 dc17 pm17 cd17 ct17 : Value}
    {f18 : Addr} {od18 an18 : Option Addr} {sl18 : Array (Option Value)} {oc18 kV18 dc18 pm18 cd18 ct18 : Value}
    {f19 : Addr} {od19 an19 : Option Addr} {sl19 : Array (Option Value)} {oc19 kV19 dc19 pm19 cd19 ct19 : Value}
    {f20 : Addr} {od20 an20 : Option Addr} {sl20 : Array (Option Value)} {oc20 kV20 dc20 pm20 cd20 ct20 : Value}
    {f21 : Addr} {od21 an21 : Option Addr} {sl21 : Array (Option Value)} {oc21 kV21 dc21 pm21 cd21 ct21 : Value}
    {f22 : Addr} {od22 an22 : Option Addr} {sl22 : Array (Option Value)} {oc22 kV22 dc22 pm22 cd22 ct22 : Value}
    {f23 : Addr} {od23 an23 : Option Addr} {sl23 : Array (Option Value)} {oc23 kV23 dc23 pm23 cd23 ct23 : Value}
    {f24 : Addr} {od24 an24 : Option Addr} {sl24 : Array (Option Value)} {oc24 kV24 dc24 pm24 cd24 ct24 : Value}
    {f25 : Addr} {od25 an25 : Option Addr} {sl25 : Array (Option Value)} {oc25 kV25 dc25 pm25 cd25 ct25 : Value}
    {f26 : Addr} {od26 an26 : Option Addr} {sl26 : Array (Option Value)} {oc26 kV26 dc26 pm26 cd26 ct26 : Value}
    {f27 : Addr} {od27 an27 : Option Addr} {sl27 : Array (Option Value)} {oc27 kV27 dc27 pm27 cd27 ct27 : Value}
    {f28 : Addr} {od28 an28 : Option Addr} {sl28 : Array (Option Value)} {oc28 kV28 dc28 pm28 cd28 ct28 : Value}
    {f29 : Addr} {od29 an29 : Option Addr} {sl29 : Array (Option Value)} {oc29 kV29 dc29 pm29 cd29 ct29 : Value}
    {f30 : Addr} {od30 an30 : Option Addr} {sl30 : Array (Option Value)} {oc30 kV30 dc30 pm30 cd30 ct30 : Value}
    {f31 : Addr} {od31 an31 : Option Addr} {sl31 : Array (Option Value)} {oc31 kV31 dc31 pm31 cd31 ct31 : Value}
    {f32 : Addr} {od32 an32 : Option Addr} {sl32 : Array (Option Value)} {oc32 kV32 dc32 pm32 cd32 ct32 : Value}
    {f33 : Addr} {od33 an33 : Option Addr} {sl33 : Array (Option Value)} {oc33 kV33 dc33 pm33 cd33 ct33 : Value}
    {f34 : Addr} {od34 an34 : Option Addr} {sl34 : Array (Option Value)} {oc34 kV34 dc34 pm34 cd34 ct34 : Value}
    {f35 : Addr} {od35 an35 : Option Addr} {sl35 : Array (Option Value)} {oc35 kV35 dc35 pm35 cd35 ct35 : Value}
    {f36 : Addr} {od36 an36 : Option Addr} {sl36 : Array (Option Value)} {oc36 kV36 dc36 pm36 cd36 ct36 : Value}
    {f37 : Addr} {od37 an37 : Option Addr} {sl37 : Array (Option Value)} {oc37 kV37 dc37 pm37 cd37 ct37 : Value}
    {f38 : Addr} {od38 an38 : Option Addr} {sl38 : Array (Option Value)} {oc38 kV38 dc38 pm38 cd38 ct38 : Value}
    {f39 : Addr} {od39 an39 : Option Addr} {sl39 : Array (Option Value)} {oc39 kV39 dc39 pm39 cd39 ct39 : Value}
    {f40 : Addr} {od40 an40 : Option Addr} {sl40 : Array (Option Value)} {oc40 kV40 dc40 pm40 cd40 ct40 : Value}
    {f41 : Addr} {od41 an41 : Option Addr} {sl41 : Array (Option Value)} {oc41 kV41 dc41 pm41 cd41 ct41 : Value}
    {f42 : Addr} {od42 an42 : Option Addr} {sl42 : Array (Option Value)} {oc42 kV42 dc42 pm42 cd42 ct42 : Value}
    {f43 : Addr} {od43 an43 : Option Addr} {sl43 : Array (Option Value)} {oc43 kV43 dc43 pm43 cd43 ct43 : Value}
    {f44 : Addr} {od44 an44 : Option Addr} {sl44 : Array (Option Value)} {oc44 kV44 dc44 pm44 cd44 ct44 : Value}
    {f45 : Addr} {od45 an45 : Option Addr} {sl45 : Array (Option Value)} {oc45 kV45 dc45 pm45 cd45 ct45 : Value}
    {f46 : Addr} {od46 an46 : Option Addr} {sl46 : Array (Option Value)} {oc46 kV46 dc46 pm46 cd46 ct46 : Value}
    {f47 : Addr} {od47 an47 : Option Addr} {sl47 : Array (Option Value)} {oc47 kV47 dc47 pm47 cd47 ct47 : Value}
    {f48 : Addr} {od48 an48 : Option Addr} {sl48 : Array (Option Value)} {oc48 kV48 dc48 pm48 cd48 ct48 : Value}
    {f49 : Addr} {od49 an49 : Option Addr} {sl49 : Array (Option Value)} {oc49 kV49 dc49 pm49 cd49 ct49 : Value}
    {f50 : Addr} {od50 an50 : Option Addr} {sl50 : Array (Option Value)} {oc50 kV50 dc50 pm50 cd50 ct50 : Value}
    {pp50 : Addr} {pr50 : List Value}
    {f51 : Addr} {od51 an51 : Option Addr} {sl51 : Array (Option Value)} {oc51 kV51 dc51 pm51 cd51 ct51 : Value}
    {pp51 : Addr} {pr51 : List Value}
    {CF CE : Addr}
    {tk0 : Nat}
    {tk1 : Nat}
    {tk2 : Nat}
    {tk3 : Nat}
    {ta0 : Addr} {td0 : Option Addr} {ti0 : Array Value} {tn0 : Nat} {ts0 : Array (Option Value)}
    (a1 : PySem.W.nsIn K mainGlobals "is_integer" = some (some (.ref f1))) (l1 : K.lookup f1 = some ⟨oc1, od1, .func (PySem.W.fnOf "is_integer" "is_integer" (defArgs s_is_integer) (defBody s_is_integer) (defScope s_is_integer) .none kV1 dc1 pm1 an1 cd1 ct1), sl1⟩) (c1 : PySem.W.codeIn K cd1 "is_integer" = true) (k1 : PySem.W.keepIn K (.ref f1) = true)
    (a2 : PySem.W.nsIn K mainGlobals "is_index" = some (some (.ref f2))) (l2 : K.lookup f2 = some ⟨oc2, od2, .func (PySem.W.fnOf "is_index" "is_index" (defArgs s_is_index) (defBody s_is_index) (defScope s_is_index) .none kV2 dc2 pm2 an2 cd2 ct2), sl2⟩) (c2 : PySem.W.codeIn K cd2 "is_index" = true) (k2 : PySem.W.keepIn K (.ref f2) = true)
    (a3 : PySem.W.nsIn K mainGlobals "is_width" = some (some (.ref f3))) (l3 : K.lookup f3 = some ⟨oc3, od3, .func (PySem.W.fnOf "is_width" "is_width" (defArgs s_is_width) (defBody s_is_width) (defScope s_is_width) .none kV3 dc3 pm3 an3 cd3 ct3), sl3⟩) (c3 : PySem.W.codeIn K cd3 "is_width" = true) (k3 : PySem.W.keepIn K (.ref f3) = true)
    (a4 : PySem.W.nsIn K mainGlobals "are_worths" = some (some (.ref f4))) (l4 : K.lookup f4 = some ⟨oc4, od4, .func (PySem.W.fnOf "are_worths" "are_worths" (defArgs s_are_worths) (defBody s_are_worths) (defScope s_are_worths) .none kV4 dc4 pm4 an4 cd4 ct4), sl4⟩) (c4 : PySem.W.codeIn K cd4 "are_worths" = true) (k4 : PySem.W.keepIn K (.ref f4) = true)
    (a5 : PySem.W.nsIn K mainGlobals "is_content" = some (some (.ref f5))) (l5 : K.lookup f5 = some ⟨oc5, od5, .func (PySem.W.fnOf "is_content" "is_content" (defArgs s_is_content) (defBody s_is_content) (defScope s_is_content) .none kV5 dc5 pm5 an5 cd5 ct5), sl5⟩) (c5 : PySem.W.codeIn K cd5 "is_content" = true) (k5 : PySem.W.keepIn K (.ref f5) = true)
    (a6 : PySem.W.nsIn K mainGlobals "is_step" = some (some (.ref f6))) (l6 : K.lookup f6 = some ⟨oc6, od6, .func (PySem.W.fnOf "is_step" "is_step" (defArgs s_is_step) (defBody s_is_step) (defScope s_is_step) .none kV6 dc6 pm6 an6 cd6 ct6), sl6⟩) (c6 : PySem.W.codeIn K cd6 "is_step" = true) (k6 : PySem.W.keepIn K (.ref f6) = true)
    (a7 : PySem.W.nsIn K mainGlobals "_broken" = some (some (.ref f7))) (l7 : K.lookup f7 = some ⟨oc7, od7, .func (PySem.W.fnOf "_broken" "_broken" (defArgs s_broken) (defBody s_broken) (defScope s_broken) .none kV7 dc7 pm7 an7 cd7 ct7), sl7⟩) (c7 : PySem.W.codeIn K cd7 "_broken" = true) (k7 : PySem.W.keepIn K (.ref f7) = true)
    (a8 : PySem.W.nsIn K mainGlobals "_pieces_of" = some (some (.ref f8))) (l8 : K.lookup f8 = some ⟨oc8, od8, .func (PySem.W.fnOf "_pieces_of" "_pieces_of" (defArgs s_pieces_of) (defBody s_pieces_of) (defScope s_pieces_of) .none kV8 dc8 pm8 an8 cd8 ct8), sl8⟩) (c8 : PySem.W.codeIn K cd8 "_pieces_of" = true) (k8 : PySem.W.keepIn K (.ref f8) = true)
    (a9 : PySem.W.nsIn K mainGlobals "is_room" = some (some (.ref f9))) (l9 : K.lookup f9 = some ⟨oc9, od9, .func (PySem.W.fnOf "is_room" "is_room" (defArgs s_is_room) (defBody s_is_room) (defScope s_is_room) .none kV9 dc9 pm9 an9 cd9 ct9), sl9⟩) (c9 : PySem.W.codeIn K cd9 "is_room" = true) (k9 : PySem.W.keepIn K (.ref f9) = true)
    (a10 : PySem.W.nsIn K mainGlobals "are_steps" = some (some (.ref f10))) (l10 : K.lookup f10 = some ⟨oc10, od10, .func (PySem.W.fnOf "are_steps" "are_steps" (defArgs s_are_steps) (defBody s_are_steps) (defScope s_are_steps) .none kV10 dc10 pm10 an10 cd10 ct10), sl10⟩) (c10 : PySem.W.codeIn K cd10 "are_steps" = true) (k10 : PySem.W.keepIn K (.ref f10) = true)
    (a11 : PySem.W.nsIn K mainGlobals "_epochs_of" = some (some (.ref f11))) (l11 : K.lookup f11 = some ⟨oc11, od11, .func (PySem.W.fnOf "_epochs_of" "_epochs_of" (defArgs s_epochs_of) (defBody s_epochs_of) (defScope s_epochs_of) .none kV11 dc11 pm11 an11 cd11 ct11), sl11⟩) (c11 : PySem.W.codeIn K cd11 "_epochs_of" = true) (k11 : PySem.W.keepIn K (.ref f11) = true)
    (a12 : PySem.W.nsIn K mainGlobals "_law_pen" = some (some (.ref f12))) (l12 : K.lookup f12 = some ⟨oc12, od12, .func (PySem.W.fnOf "_law_pen" "_law_pen" (defArgs s_l_pen) (defBody s_l_pen) (defScope s_l_pen) .none kV12 dc12 pm12 an12 cd12 ct12), sl12⟩) (c12 : PySem.W.codeIn K cd12 "_law_pen" = true) (k12 : PySem.W.keepIn K (.ref f12) = true)
    (a13 : PySem.W.nsIn K mainGlobals "_law_next" = some (some (.ref f13))) (l13 : K.lookup f13 = some ⟨oc13, od13, .func (PySem.W.fnOf "_law_next" "_law_next" (defArgs s_l_next) (defBody s_l_next) (defScope s_l_next) .none kV13 dc13 pm13 an13 cd13 ct13), sl13⟩) (c13 : PySem.W.codeIn K cd13 "_law_next" = true) (k13 : PySem.W.keepIn K (.ref f13) = true)
    (a14 : PySem.W.nsIn K mainGlobals "_law_draw" = some (some (.ref f14))) (l14 : K.lookup f14 = some ⟨oc14, od14, .func (PySem.W.fnOf "_law_draw" "_law_draw" (defArgs s_l_draw) (defBody s_l_draw) (defScope s_l_draw) .none kV14 dc14 pm14 an14 cd14 ct14), sl14⟩) (c14 : PySem.W.codeIn K cd14 "_law_draw" = true) (k14 : PySem.W.keepIn K (.ref f14) = true)
    (a15 : PySem.W.nsIn K mainGlobals "_law_split" = some (some (.ref f15))) (l15 : K.lookup f15 = some ⟨oc15, od15, .func (PySem.W.fnOf "_law_split" "_law_split" (defArgs s_l_split) (defBody s_l_split) (defScope s_l_split) .none kV15 dc15 pm15 an15 cd15 ct15), sl15⟩) (c15 : PySem.W.codeIn K cd15 "_law_split" = true) (k15 : PySem.W.keepIn K (.ref f15) = true)
    (a16 : PySem.W.nsIn K mainGlobals "_law_parts" = some (some (.ref f16))) (l16 : K.lookup f16 = some ⟨oc16, od16, .func (PySem.W.fnOf "_law_parts" "_law_parts" (defArgs s_l_parts) (defBody s_l_parts) (defScope s_l_parts) .none kV16 dc16 pm16 an16 cd16 ct16), sl16⟩) (c16 : PySem.W.codeIn K cd16 "_law_parts" = true) (k16 : PySem.W.keepIn K (.ref f16) = true)
    (a17 : PySem.W.nsIn K mainGlobals "_law_write" = some (some (.ref f17))) (l17 : K.lookup f17 = some ⟨oc17, od17, .func (PySem.W.fnOf "_law_write" "_law_write" (defArgs s_l_write) (defBody s_l_write) (defScope s_l_write) .none kV17 dc17 pm17 an17 cd17 ct17), sl17⟩) (c17 : PySem.W.codeIn K cd17 "_law_write" = true) (k17 : PySem.W.keepIn K (.ref f17) = true)
    (a18 : PySem.W.nsIn K mainGlobals "_law_drawn" = some (some (.ref f18))) (l18 : K.lookup f18 = some ⟨oc18, od18, .func (PySem.W.fnOf "_law_drawn" "_law_drawn" (defArgs s_l_drawn) (defBody s_l_drawn) (defScope s_l_drawn) .none kV18 dc18 pm18 an18 cd18 ct18), sl18⟩) (c18 : PySem.W.codeIn K cd18 "_law_drawn" = true) (k18 : PySem.W.keepIn K (.ref f18) = true)
    (a19 : PySem.W.nsIn K mainGlobals "_law_log" = some (some (.ref f19))) (l19 : K.lookup f19 = some ⟨oc19, od19, .func (PySem.W.fnOf "_law_log" "_law_log" (defArgs s_l_log) (defBody s_l_log) (defScope s_l_log) .none kV19 dc19 pm19 an19 cd19 ct19), sl19⟩) (c19 : PySem.W.codeIn K cd19 "_law_log" = true) (k19 : PySem.W.keepIn K (.ref f19) = true)
    (a20 : PySem.W.nsIn K mainGlobals "_law_copy" = some (some (.ref f20))) (l20 : K.lookup f20 = some ⟨oc20, od20, .func (PySem.W.fnOf "_law_copy" "_law_copy" (defArgs s_l_copy) (defBody s_l_copy) (defScope s_l_copy) .none kV20 dc20 pm20 an20 cd20 ct20), sl20⟩) (c20 : PySem.W.codeIn K cd20 "_law_copy" = true) (k20 : PySem.W.keepIn K (.ref f20) = true)
    (a21 : PySem.W.nsIn K mainGlobals "_law_plan" = some (some (.ref f21))) (l21 : K.lookup f21 = some ⟨oc21, od21, .func (PySem.W.fnOf "_law_plan" "_law_plan" (defArgs s_l_plan) (defBody s_l_plan) (defScope s_l_plan) .none kV21 dc21 pm21 an21 cd21 ct21), sl21⟩) (c21 : PySem.W.codeIn K cd21 "_law_plan" = true) (k21 : PySem.W.keepIn K (.ref f21) = true)
    (a22 : PySem.W.nsIn K mainGlobals "_law_plan_of" = some (some (.ref f22))) (l22 : K.lookup f22 = some ⟨oc22, od22, .func (PySem.W.fnOf "_law_plan_of" "_law_plan_of" (defArgs s_l_plan_of) (defBody s_l_plan_of) (defScope s_l_plan_of) .none kV22 dc22 pm22 an22 cd22 ct22), sl22⟩) (c22 : PySem.W.codeIn K cd22 "_law_plan_of" = true) (k22 : PySem.W.keepIn K (.ref f22) = true)
    (a23 : PySem.W.nsIn K mainGlobals "_law_ranks" = some (some (.ref f23))) (l23 : K.lookup f23 = some ⟨oc23, od23, .func (PySem.W.fnOf "_law_ranks" "_law_ranks" (defArgs s_l_ranks) (defBody s_l_ranks) (defScope s_l_ranks) .none kV23 dc23 pm23 an23 cd23 ct23), sl23⟩) (c23 : PySem.W.codeIn K cd23 "_law_ranks" = true) (k23 : PySem.W.keepIn K (.ref f23) = true)
    (a24 : PySem.W.nsIn K mainGlobals "piece_epochs" = some (some (.ref f24))) (l24 : K.lookup f24 = some ⟨oc24, od24, .func (PySem.W.fnOf "piece_epochs" "piece_epochs" (defArgs s_piece_epochs) (defBody s_piece_epochs) (defScope s_piece_epochs) .none kV24 dc24 pm24 an24 cd24 ct24), sl24⟩) (c24 : PySem.W.codeIn K cd24 "piece_epochs" = true) (k24 : PySem.W.keepIn K (.ref f24) = true)
    (a25 : PySem.W.nsIn K mainGlobals "is_fall" = some (some (.ref f25))) (l25 : K.lookup f25 = some ⟨oc25, od25, .func (PySem.W.fnOf "is_fall" "is_fall" (defArgs s_is_fall) (defBody s_is_fall) (defScope s_is_fall) .none kV25 dc25 pm25 an25 cd25 ct25), sl25⟩) (c25 : PySem.W.codeIn K cd25 "is_fall" = true) (k25 : PySem.W.keepIn K (.ref f25) = true)
    (a26 : PySem.W.nsIn K mainGlobals "_law_nexts" = some (some (.ref f26))) (l26 : K.lookup f26 = some ⟨oc26, od26, .func (PySem.W.fnOf "_law_nexts" "_law_nexts" (defArgs s_l_nexts) (defBody s_l_nexts) (defScope s_l_nexts) .none kV26 dc26 pm26 an26 cd26 ct26), sl26⟩) (c26 : PySem.W.codeIn K cd26 "_law_nexts" = true) (k26 : PySem.W.keepIn K (.ref f26) = true)
    (a27 : PySem.W.nsIn K mainGlobals "_law_fall" = some (some (.ref f27))) (l27 : K.lookup f27 = some ⟨oc27, od27, .func (PySem.W.fnOf "_law_fall" "_law_fall" (defArgs s_l_fall) (defBody s_l_fall) (defScope s_l_fall) .none kV27 dc27 pm27 an27 cd27 ct27), sl27⟩) (c27 : PySem.W.codeIn K cd27 "_law_fall" = true) (k27 : PySem.W.keepIn K (.ref f27) = true)
    (a28 : PySem.W.nsIn K mainGlobals "is_ascending" = some (some (.ref f28))) (l28 : K.lookup f28 = some ⟨oc28, od28, .func (PySem.W.fnOf "is_ascending" "is_ascending" (defArgs s_is_ascending) (defBody s_is_ascending) (defScope s_is_ascending) .none kV28 dc28 pm28 an28 cd28 ct28), sl28⟩) (c28 : PySem.W.codeIn K cd28 "is_ascending" = true) (k28 : PySem.W.keepIn K (.ref f28) = true)
    (a29 : PySem.W.nsIn K mainGlobals "are_let" = some (some (.ref f29))) (l29 : K.lookup f29 = some ⟨oc29, od29, .func (PySem.W.fnOf "are_let" "are_let" (defArgs s_are_let) (defBody s_are_let) (defScope s_are_let) .none kV29 dc29 pm29 an29 cd29 ct29), sl29⟩) (c29 : PySem.W.codeIn K cd29 "are_let" = true) (k29 : PySem.W.keepIn K (.ref f29) = true)
    (a30 : PySem.W.nsIn K mainGlobals "is_pattern" = some (some (.ref f30))) (l30 : K.lookup f30 = some ⟨oc30, od30, .func (PySem.W.fnOf "is_pattern" "is_pattern" (defArgs s_is_pattern) (defBody s_is_pattern) (defScope s_is_pattern) .none kV30 dc30 pm30 an30 cd30 ct30), sl30⟩) (c30 : PySem.W.codeIn K cd30 "is_pattern" = true) (k30 : PySem.W.keepIn K (.ref f30) = true)
    (a31 : PySem.W.nsIn K mainGlobals "agrees" = some (some (.ref f31))) (l31 : K.lookup f31 = some ⟨oc31, od31, .func (PySem.W.fnOf "agrees" "agrees" (defArgs s_agrees) (defBody s_agrees) (defScope s_agrees) .none kV31 dc31 pm31 an31 cd31 ct31), sl31⟩) (c31 : PySem.W.codeIn K cd31 "agrees" = true) (k31 : PySem.W.keepIn K (.ref f31) = true)
    (a32 : PySem.W.nsIn K mainGlobals "_law_is_met" = some (some (.ref f32))) (l32 : K.lookup f32 = some ⟨oc32, od32, .func (PySem.W.fnOf "_law_is_met" "_law_is_met" (defArgs s_l_is_met) (defBody s_l_is_met) (defScope s_l_is_met) .none kV32 dc32 pm32 an32 cd32 ct32), sl32⟩) (c32 : PySem.W.codeIn K cd32 "_law_is_met" = true) (k32 : PySem.W.keepIn K (.ref f32) = true)
    (a33 : PySem.W.nsIn K mainGlobals "behind_piece" = some (some (.ref f33))) (l33 : K.lookup f33 = some ⟨oc33, od33, .func (PySem.W.fnOf "behind_piece" "behind_piece" (defArgs s_behind_piece) (defBody s_behind_piece) (defScope s_behind_piece) .none kV33 dc33 pm33 an33 cd33 ct33), sl33⟩) (c33 : PySem.W.codeIn K cd33 "behind_piece" = true) (k33 : PySem.W.keepIn K (.ref f33) = true)
    (a34 : PySem.W.nsIn K mainGlobals "overwritten" = some (some (.ref f34))) (l34 : K.lookup f34 = some ⟨oc34, od34, .func (PySem.W.fnOf "overwritten" "overwritten" (defArgs s_overwritten) (defBody s_overwritten) (defScope s_overwritten) .none kV34 dc34 pm34 an34 cd34 ct34), sl34⟩) (c34 : PySem.W.codeIn K cd34 "overwritten" = true) (k34 : PySem.W.keepIn K (.ref f34) = true)
    (a35 : PySem.W.nsIn K mainGlobals "_law_left" = some (some (.ref f35))) (l35 : K.lookup f35 = some ⟨oc35, od35, .func (PySem.W.fnOf "_law_left" "_law_left" (defArgs s_l_left) (defBody s_l_left) (defScope s_l_left) .none kV35 dc35 pm35 an35 cd35 ct35), sl35⟩) (c35 : PySem.W.codeIn K cd35 "_law_left" = true) (k35 : PySem.W.keepIn K (.ref f35) = true)
    (a36 : PySem.W.nsIn K mainGlobals "_law_some" = some (some (.ref f36))) (l36 : K.lookup f36 = some ⟨oc36, od36, .func (PySem.W.fnOf "_law_some" "_law_some" (defArgs s_l_some) (defBody s_l_some) (defScope s_l_some) .none kV36 dc36 pm36 an36 cd36 ct36), sl36⟩) (c36 : PySem.W.codeIn K cd36 "_law_some" = true) (k36 : PySem.W.keepIn K (.ref f36) = true)
    (a37 : PySem.W.nsIn K mainGlobals "_law_pattern" = some (some (.ref f37))) (l37 : K.lookup f37 = some ⟨oc37, od37, .func (PySem.W.fnOf "_law_pattern" "_law_pattern" (defArgs s_l_pattern) (defBody s_l_pattern) (defScope s_l_pattern) .none kV37 dc37 pm37 an37 cd37 ct37), sl37⟩) (c37 : PySem.W.codeIn K cd37 "_law_pattern" = true) (k37 : PySem.W.keepIn K (.ref f37) = true)
    (a38 : PySem.W.nsIn K mainGlobals "_law_is_whole" = some (some (.ref f38))) (l38 : K.lookup f38 = some ⟨oc38, od38, .func (PySem.W.fnOf "_law_is_whole" "_law_is_whole" (defArgs s_l_is_whole) (defBody s_l_is_whole) (defScope s_l_is_whole) .none kV38 dc38 pm38 an38 cd38 ct38), sl38⟩) (c38 : PySem.W.codeIn K cd38 "_law_is_whole" = true) (k38 : PySem.W.keepIn K (.ref f38) = true)
    (a39 : PySem.W.nsIn K mainGlobals "_law_is_fall" = some (some (.ref f39))) (l39 : K.lookup f39 = some ⟨oc39, od39, .func (PySem.W.fnOf "_law_is_fall" "_law_is_fall" (defArgs s_l_is_fall) (defBody s_l_is_fall) (defScope s_l_is_fall) .none kV39 dc39 pm39 an39 cd39 ct39), sl39⟩) (c39 : PySem.W.codeIn K cd39 "_law_is_fall" = true) (k39 : PySem.W.keepIn K (.ref f39) = true)
    (a40 : PySem.W.nsIn K mainGlobals "are_guards" = some (some (.ref f40))) (l40 : K.lookup f40 = some ⟨oc40, od40, .func (PySem.W.fnOf "are_guards" "are_guards" (defArgs s_are_guards) (defBody s_are_guards) (defScope s_are_guards) .none kV40 dc40 pm40 an40 cd40 ct40), sl40⟩) (c40 : PySem.W.codeIn K cd40 "are_guards" = true) (k40 : PySem.W.keepIn K (.ref f40) = true)
    (a41 : PySem.W.nsIn K mainGlobals "check_guards" = some (some (.ref f41))) (l41 : K.lookup f41 = some ⟨oc41, od41, .func (PySem.W.fnOf "check_guards" "check_guards" (defArgs s_check_guards) (defBody s_check_guards) (defScope s_check_guards) .none kV41 dc41 pm41 an41 cd41 ct41), sl41⟩) (c41 : PySem.W.codeIn K cd41 "check_guards" = true) (k41 : PySem.W.keepIn K (.ref f41) = true)
    (a42 : PySem.W.nsIn K mainGlobals "does_harm" = some (some (.ref f42))) (l42 : K.lookup f42 = some ⟨oc42, od42, .func (PySem.W.fnOf "does_harm" "does_harm" (defArgs s_does_harm) (defBody s_does_harm) (defScope s_does_harm) .none kV42 dc42 pm42 an42 cd42 ct42), sl42⟩) (c42 : PySem.W.codeIn K cd42 "does_harm" = true) (k42 : PySem.W.keepIn K (.ref f42) = true)
    (a43 : PySem.W.nsIn K mainGlobals "is_harm" = some (some (.ref f43))) (l43 : K.lookup f43 = some ⟨oc43, od43, .func (PySem.W.fnOf "is_harm" "is_harm" (defArgs s_is_harm) (defBody s_is_harm) (defScope s_is_harm) .none kV43 dc43 pm43 an43 cd43 ct43), sl43⟩) (c43 : PySem.W.codeIn K cd43 "is_harm" = true) (k43 : PySem.W.keepIn K (.ref f43) = true)
    (a44 : PySem.W.nsIn K mainGlobals "_law_is_harm" = some (some (.ref f44))) (l44 : K.lookup f44 = some ⟨oc44, od44, .func (PySem.W.fnOf "_law_is_harm" "_law_is_harm" (defArgs s_l_is_harm) (defBody s_l_is_harm) (defScope s_l_is_harm) .none kV44 dc44 pm44 an44 cd44 ct44), sl44⟩) (c44 : PySem.W.codeIn K cd44 "_law_is_harm" = true) (k44 : PySem.W.keepIn K (.ref f44) = true)
    (a45 : PySem.W.nsIn K mainGlobals "_law_near" = some (some (.ref f45))) (l45 : K.lookup f45 = some ⟨oc45, od45, .func (PySem.W.fnOf "_law_near" "_law_near" (defArgs s_l_near) (defBody s_l_near) (defScope s_l_near) .none kV45 dc45 pm45 an45 cd45 ct45), sl45⟩) (c45 : PySem.W.codeIn K cd45 "_law_near" = true) (k45 : PySem.W.keepIn K (.ref f45) = true)
    (a46 : PySem.W.nsIn K mainGlobals "law" = some (some (.ref f46))) (l46 : K.lookup f46 = some ⟨oc46, od46, .func (PySem.W.fnOf "law" "law" (defArgs s_law) (defBody s_law) (defScope s_law) .none kV46 dc46 pm46 an46 cd46 ct46), sl46⟩) (c46 : PySem.W.codeIn K cd46 "law" = true) (k46 : PySem.W.keepIn K (.ref f46) = true)
    (aC : PySem.W.nsIn K mainGlobals "Plan" = some (some (.ref C)))
    (a47 : PySem.W.findIn K (.ref C) "__init__" = some (some (.ref f47))) (i47 : PySem.W.isFn K (.ref f47) = true) (l47 : K.lookup f47 = some ⟨oc47, od47, .func (PySem.W.fnOf "__init__" "Plan.__init__" (defArgs s_Plan___init) (defBody s_Plan___init) (defScope s_Plan___init) .none kV47 dc47 pm47 an47 cd47 ct47), sl47⟩) (c47 : PySem.W.codeIn K cd47 "Plan.__init__" = true) (k47 : PySem.W.keepIn K (.ref f47) = true)
    (a48 : PySem.W.findIn K (.ref C) "__eq__" = some (some (.ref f48))) (i48 : PySem.W.isFn K (.ref f48) = true) (l48 : K.lookup f48 = some ⟨oc48, od48, .func (PySem.W.fnOf "__eq__" "Plan.__eq__" (defArgs s_Plan___eq) (defBody s_Plan___eq) (defScope s_Plan___eq) .none kV48 dc48 pm48 an48 cd48 ct48), sl48⟩) (c48 : PySem.W.codeIn K cd48 "Plan.__eq__" = true) (k48 : PySem.W.keepIn K (.ref f48) = true)
    (a49 : PySem.W.findIn K (.ref C) "epoch_of" = some (some (.ref f49))) (i49 : PySem.W.isFn K (.ref f49) = true) (l49 : K.lookup f49 = some ⟨oc49, od49, .func (PySem.W.fnOf "epoch_of" "Plan.epoch_of" (defArgs s_Plan_epoch_of) (defBody s_Plan_epoch_of) (defScope s_Plan_epoch_of) .none kV49 dc49 pm49 an49 cd49 ct49), sl49⟩) (c49 : PySem.W.codeIn K cd49 "Plan.epoch_of" = true) (k49 : PySem.W.keepIn K (.ref f49) = true)
    (a50 : PySem.W.findIn K (.ref C) "base" = some (some (.ref pp50))) (i50 : PySem.W.specialIn K (.ref pp50) "__get__" = some (some (.builtin "property.__get__"))) (j50 : PySem.W.takesIn K (.ref pp50) = some true) (r50 : PySem.W.recIn K pp50 "property" = some (.ref f50 :: pr50)) (l50 : K.lookup f50 = some ⟨oc50, od50, .func (PySem.W.fnOf "base" "Plan.base" (defArgs s_Plan_base) (defBody s_Plan_base) (defScope s_Plan_base) .none kV50 dc50 pm50 an50 cd50 ct50), sl50⟩) (c50 : PySem.W.codeIn K cd50 "Plan.base" = true) (k50 : PySem.W.keepIn K (.ref f50) = true)
    (a51 : PySem.W.findIn K (.ref C) "pieces" = some (some (.ref pp51))) (i51 : PySem.W.specialIn K (.ref pp51) "__get__" = some (some (.builtin "property.__get__"))) (j51 : PySem.W.takesIn K (.ref pp51) = some true) (r51 : PySem.W.recIn K pp51 "property" = some (.ref f51 :: pr51)) (l51 : K.lookup f51 = some ⟨oc51, od51, .func (PySem.W.fnOf "pieces" "Plan.pieces" (defArgs s_Plan_pieces) (defBody s_Plan_pieces) (defScope s_Plan_pieces) .none kV51 dc51 pm51 an51 cd51 ct51), sl51⟩) (c51 : PySem.W.codeIn K cd51 "Plan.pieces" = true) (k51 : PySem.W.keepIn K (.ref f51) = true)
    (pg : PySem.W.plainGet K C Str.empty = true) (hd : PySem.W.hasDictIn K C = true) (po : PySem.W.plainOver K C = true) (sa : PySem.W.findIn K (.ref C) "__setattr__" = some (some (.builtin "object.__setattr__"))) (mk : PySem.W.makesIn K C = true) (kc : PySem.W.keepIn K (.ref C) = true)
    (ic : PySem.W.isClsIn K C = true) (tc : PySem.W.typeIn K (.ref C) = some (.type "type")) (ha : PySem.W.findIn K (.ref C) "__class__" = some (some (.builtin "object.__class__"))) (hn : PySem.W.specialIn K (.builtin "object.__class__") "__get__" = some (some (.builtin "getset_descriptor.__get__"))) (htk : PySem.W.takesIn K (.builtin "object.__class__") = some true) (hm : PySem.W.mroIn K C (.type "object") = some true)
    (hne : PySem.W.findIn K (.ref C) "__ne__" = some (some (.builtin "object.__ne__")))
    (n0 : PySem.W.findIn K (.ref C) "_base" = some none)
    (n1 : PySem.W.findIn K (.ref C) "_width" = some none)
    (n2 : PySem.W.findIn K (.ref C) "_steps" = some none)
    (n3 : PySem.W.findIn K (.ref C) "_pieces" = some none)
    (n4 : PySem.W.findIn K (.ref C) "_piece_epochs" = some none)
    (n5 : PySem.W.findIn K (.ref C) "_epochs" = some none)
    (gCF : PySem.W.nsIn K mainGlobals "FallError" = some (some (.ref CF)))
    (gCE : PySem.W.nsIn K mainGlobals "UnknownPiece" = some (some (.ref CE)))
    (yb : PySem.W.subIn K (.ref CF) (.type "BaseException") = some true)
    (yd : PySem.W.hasDictIn K CF = true)
    (yt : PySem.W.typeIn K (.ref CF) = some (.type "type"))
    (xxCE : PySem.W.excIn K CE [.type "ValueError", .type "Exception", .type "BaseException", .type "object"] "ValueError.__new__" = true)
    (xkCE : PySem.W.keepIn K (.ref CE) = true)
    (xbCE : PySem.W.subIn K (.ref CE) (.type "BaseException") = some true)
    (xtCE : PySem.W.typeIn K (.ref CE) = some (.type "type"))
    (xdCE : PySem.W.hasDictIn K CE = true)
    (xcCE : PySem.W.findIn K (.ref CE) "__class__" = some (some (.builtin "object.__class__")))
    (xmCE : PySem.W.mroIn K CE (.type "object") = some true)
    (xgaCE : PySem.W.findIn K (.ref CE) "__getattribute__" = some (some (.builtin "BaseException.__getattribute__")))
    (xgtCE : PySem.W.findIn K (.ref CE) "__getattr__" = some none)
    (yeCE : PySem.W.subIn K (.ref CE) (.ref CF) = some true)
    (zr : PySem.W.nsIn K mainGlobals "repr" = some none)
    (z0 : PySem.W.nsIn K mainGlobals "len" = some none)
    (z1 : PySem.W.nsIn K mainGlobals "int" = some none)
    (z2 : PySem.W.nsIn K mainGlobals "list" = some none)
    (z3 : PySem.W.nsIn K mainGlobals "tuple" = some none)
    (z4 : PySem.W.nsIn K mainGlobals "range" = some none)
    (z5 : PySem.W.nsIn K mainGlobals "min" = some none)
    (z6 : PySem.W.nsIn K mainGlobals "all" = some none)
    (z7 : PySem.W.nsIn K mainGlobals "enumerate" = some none)
    (z8 : PySem.W.nsIn K mainGlobals "zip" = some none)
    (z9 : PySem.W.nsIn K mainGlobals "isinstance" = some none)
    (z10 : PySem.W.nsIn K mainGlobals "bool" = some none)
    (zs : PySem.W.nsIn K mainGlobals "set" = some none)
    (dict : PySem.W.nsIn K mainGlobals "dict" = some none)
    (zo : PySem.W.nsIn K mainGlobals "sorted" = some none)
    (za : PySem.W.nsIn K mainGlobals "any" = some none)
    (zst : PySem.W.nsIn K mainGlobals "str" = some none)
    (m0 : PySem.W.nsIn K mainGlobals "MOST_CELLS" = some (some (.int 24 tk0)))
    (m1 : PySem.W.nsIn K mainGlobals "MOST_STEPS" = some (some (.int 40 tk1)))
    (m2 : PySem.W.nsIn K mainGlobals "MOST_PIECES" = some (some (.int 40 tk2)))
    (m3 : PySem.W.nsIn K mainGlobals "MOST_GUARDS" = some (some (.int 99 tk3)))
    (u0 : PySem.W.nsIn K mainGlobals "ALL_WORTHS" = some (some (.ref ta0))) (w0 : K.lookup ta0 = some ⟨.type "tuple", td0, .seq ti0 tn0, ts0⟩) (x0 : ti0.size ≤ sizeLine) (y0 : Vals (ivs [0, 1, 2, 3, 4, 5, 6, 7]) ti0.toList) :
    ∃ fd : FuncData, (∀ (s : Shared) (v : Value), BindsTo s fd ⟨[v], []⟩ [("_law_script", v)]) ∧ ∀ base : Heap, K.In base → base.Ns mainGlobals mg → FnG l.prog w K mg base 10 fa fd ["_law_script"] (sp_law K) := by
  have e := hfa.symm.trans (PySem.W.mg_of X G a46)
  cases e
  have T : Txt mg := ⟨PySem.W.mg_none_of X G z0, PySem.W.mg_none_of X G z1, PySem.W.mg_none_of X G z2, PySem.W.mg_none_of X G z3, PySem.W.mg_none_of X G z4, PySem.W.mg_none_of X G z5, PySem.W.mg_none_of X G z6, PySem.W.mg_none_of X G z7, PySem.W.mg_none_of X G z8, PySem.W.mg_none_of X G z9, PySem.W.mg_none_of X G z10⟩
  have CK : Cst K mg := ⟨⟨_, PySem.W.mg_of X G m0⟩, ⟨_, PySem.W.mg_of X G m1⟩, ⟨_, PySem.W.mg_of X G m2⟩, ⟨_, PySem.W.mg_of X G u0, fun H => .inr ⟨_, ti0, tn0, w0, rfl, rfl, x0, y0⟩⟩⟩
  have TC : PlanC K mg C := ⟨⟨pg, hd, po, sa⟩, n0, n1, n2, n3, n4, n5, PySem.W.mg_of X G aC, is_own, fun n hn => is_not hn ic tc, fun n hn => first_not hn, ha, hn, htk, hm⟩
  have F_Plan___init := fun_mk (st := s_Plan___init) l47 c47 k47
  have b_Plan___init := F_Plan___init.binds (ps := ["self", "base", "width", "steps"]) fun _ _ _ _ _ _ us hl => match us, hl with | [_, _, _, _], _ => rfl
  have M_Plan___init : Mk K C f47 := ⟨mk, a47, i47, kc⟩
  have F_Plan___eq := fun_mk (st := s_Plan___eq) l48 c48 k48
  have b_Plan___eq := F_Plan___eq.binds (ps := ["self", "other"]) fun _ _ _ _ _ _ us hl => match us, hl with | [_, _], _ => rfl
  have M_Plan___eq : Meth K C "__eq__" f48 := ⟨a48, i48, k48⟩
  have F_Plan_epoch_of := fun_mk (st := s_Plan_epoch_of) l49 c49 k49
  have b_Plan_epoch_of := F_Plan_epoch_of.binds (ps := ["self", "piece"]) fun _ _ _ _ _ _ us hl => match us, hl with | [_, _], _ => rfl
  have M_Plan_epoch_of : Meth K C "epoch_of" f49 := ⟨a49, i49, k49⟩
  have O : OwnEqC K C f48 := ⟨a48, i48, hne, hm⟩
  have X_CE : ExcC K mg "UnknownPiece" CE := ⟨PySem.W.mg_of X G gCE, xxCE, xkCE, xbCE, xtCE⟩
  have I_CE : L2.ExcC K CE := ⟨xgaCE, xgtCE, xbCE, xdCE, xcCE, hn, htk, xmCE⟩
  have m_CE : PySem.W.exmOne K (.ref CE) (.ref CF) = some true := PySem.W.exm_ref yb yd yt yeCE
  refine ⟨PySem.W.fnOf "law" "law" (defArgs s_law) (defBody s_law) (defScope s_law) .none kV46 dc46 pm46 an46 cd46 ct46, fun s v => .of_eq rfl, fun base _ _ => ?_⟩
  have t_repr := PySem.W.mg_none_of X G zr
  have t_zs := PySem.W.mg_none_of X G zs
  have t_dict := PySem.W.mg_none_of X G dict
  have t_zo := PySem.W.mg_none_of X G zo
  have t_za := PySem.W.mg_none_of X G za
  have t_zst := PySem.W.mg_none_of X G zst
  have F_Plan_base := fun_mk (st := s_Plan_base) l50 c50 k50
  have P_base : PropC l.prog w K mg base C "base" (sp_p_base C) := ⟨pp50, f50, _, ⟨a50, i50, j50, _, r50⟩, ok_p_base F_Plan_base TC, F_Plan_base.binds (ps := ["self"]) fun _ _ _ _ _ _ us hl => match us, hl with | [_], _ => rfl⟩
  have F_Plan_pieces := fun_mk (st := s_Plan_pieces) l51 c51 k51
  have P_pieces : PropC l.prog w K mg base C "pieces" (sp_p_pieces C) := ⟨pp51, f51, _, ⟨a51, i51, j51, _, r51⟩, ok_p_pieces F_Plan_pieces T TC, F_Plan_pieces.binds (ps := ["self"]) fun _ _ _ _ _ _ us hl => match us, hl with | [_], _ => rfl⟩
  have F1 := fun_mk (st := s_is_integer) l1 c1 k1
  have c_is_integer : Cal l.prog w K mg base 1 "is_integer" ["thing"] (sp_is_integer K) := ⟨f1, _, ok_is_integer F1 T, PySem.W.mg_of X G a1, k1, F1.binds (ps := ["thing"]) fun _ _ _ _ _ _ us hl => match us, hl with | [_], _ => rfl⟩
  have F2 := fun_mk (st := s_is_index) l2 c2 k2
  have c_is_index : Cal l.prog w K mg base 2 "is_index" ["thing", "many"] (sp_is_index K) := ⟨f2, _, ok_is_index F2 T c_is_integer, PySem.W.mg_of X G a2, k2, F2.binds (ps := ["thing", "many"]) fun _ _ _ _ _ _ us hl => match us, hl with | [_, _], _ => rfl⟩
  have F3 := fun_mk (st := s_is_width) l3 c3 k3
  have c_is_width : Cal l.prog w K mg base 2 "is_width" ["thing"] (sp_is_width K) := ⟨f3, _, ok_is_width F3 T CK c_is_integer, PySem.W.mg_of X G a3, k3, F3.binds (ps := ["thing"]) fun _ _ _ _ _ _ us hl => match us, hl with | [_], _ => rfl⟩
  have F4 := fun_mk (st := s_are_worths) l4 c4 k4
  have c_are_worths : Cal l.prog w K mg base 3 "are_worths" ["thing"] (sp_are_worths K) := ⟨f4, _, ok_are_worths F4 T CK c_is_index, PySem.W.mg_of X G a4, k4, F4.binds (ps := ["thing"]) fun _ _ _ _ _ _ us hl => match us, hl with | [_], _ => rfl⟩
  have F5 := fun_mk (st := s_is_content) l5 c5 k5
  have c_is_content : Cal l.prog w K mg base 4 "is_content" ["thing"] (sp_is_content K) := ⟨f5, _, ok_is_content F5 T CK c_are_worths, PySem.W.mg_of X G a5, k5, F5.binds (ps := ["thing"]) fun _ _ _ _ _ _ us hl => match us, hl with | [_], _ => rfl⟩
  have F6 := fun_mk (st := s_is_step) l6 c6 k6
  have c_is_step : Cal l.prog w K mg base 4 "is_step" ["cells", "thing"] (sp_is_step K) := ⟨f6, _, ok_is_step F6 T c_is_index c_are_worths, PySem.W.mg_of X G a6, k6, F6.binds (ps := ["cells", "thing"]) fun _ _ _ _ _ _ us hl => match us, hl with | [_, _], _ => rfl⟩
  have F7 := fun_mk (st := s_broken) l7 c7 k7
  have c_broken : Cal l.prog w K mg base 1 "_broken" ["width", "index", "write"] sp_brokenX := ⟨f7, _, ok_brokenX F7 T, PySem.W.mg_of X G a7, k7, F7.binds (ps := ["width", "index", "write"]) fun _ _ _ _ _ _ us hl => match us, hl with | [_, _, _], _ => rfl⟩
  have F8 := fun_mk (st := s_pieces_of) l8 c8 k8
  have c_pieces_of : Cal l.prog w K mg base 2 "_pieces_of" ["width", "steps"] sp_piecesX := ⟨f8, _, ok_piecesX F8 T c_broken, PySem.W.mg_of X G a8, k8, F8.binds (ps := ["width", "steps"]) fun _ _ _ _ _ _ us hl => match us, hl with | [_, _], _ => rfl⟩
  have F9 := fun_mk (st := s_is_room) l9 c9 k9
  have c_is_room : Cal l.prog w K mg base 3 "is_room" ["width", "steps"] sp_roomX := ⟨f9, _, ok_roomX F9 T CK c_pieces_of, PySem.W.mg_of X G a9, k9, F9.binds (ps := ["width", "steps"]) fun _ _ _ _ _ _ us hl => match us, hl with | [_, _], _ => rfl⟩
  have F10 := fun_mk (st := s_are_steps) l10 c10 k10
  have c_are_steps : Cal l.prog w K mg base 5 "are_steps" ["cells", "width", "thing"] (sp_are_steps K sp_roomX) := ⟨f10, _, ok_are_steps F10 T c_is_step c_is_room, PySem.W.mg_of X G a10, k10, F10.binds (ps := ["cells", "width", "thing"]) fun _ _ _ _ _ _ us hl => match us, hl with | [_, _, _], _ => rfl⟩
  have F11 := fun_mk (st := s_epochs_of) l11 c11 k11
  have c_epochs_of : Cal l.prog w K mg base 1 "_epochs_of" ["steps"] sp_epochsX := ⟨f11, _, ok_epochsX F11 T, PySem.W.mg_of X G a11, k11, F11.binds (ps := ["steps"]) fun _ _ _ _ _ _ us hl => match us, hl with | [_], _ => rfl⟩
  have F12 := fun_mk (st := s_l_pen) l12 c12 k12
  have c_l_pen : Cal l.prog w K mg base 1 "_law_pen" ["_law_script"] (sp_pen K) := ⟨f12, _, ok_pen F12 T, PySem.W.mg_of X G a12, k12, F12.binds (ps := ["_law_script"]) fun _ _ _ _ _ _ us hl => match us, hl with | [_], _ => rfl⟩
  have F13 := fun_mk (st := s_l_next) l13 c13 k13
  have c_l_next : Cal l.prog w K mg base 1 "_law_next" ["_law_pen_here"] sp_next := ⟨f13, _, ok_next F13 T, PySem.W.mg_of X G a13, k13, F13.binds (ps := ["_law_pen_here"]) fun _ _ _ _ _ _ us hl => match us, hl with | [_], _ => rfl⟩
  have F14 := fun_mk (st := s_l_draw) l14 c14 k14
  have c_l_draw : Cal l.prog w K mg base 2 "_law_draw" ["_law_pen_here", "_law_under"] sp_draw := ⟨f14, _, ok_draw F14 T c_l_next, PySem.W.mg_of X G a14, k14, F14.binds (ps := ["_law_pen_here", "_law_under"]) fun _ _ _ _ _ _ us hl => match us, hl with | [_, _], _ => rfl⟩
  have F15 := fun_mk (st := s_l_split) l15 c15 k15
  have c_l_split : Cal l.prog w K mg base 1 "_law_split" ["_law_index", "_law_step_here", "_law_span_here"] sp_split := ⟨f15, _, ok_split F15 T, PySem.W.mg_of X G a15, k15, F15.binds (ps := ["_law_index", "_law_step_here", "_law_span_here"]) fun _ _ _ _ _ _ us hl => match us, hl with | [_, _, _], _ => rfl⟩
  have F16 := fun_mk (st := s_l_parts) l16 c16 k16
  have c_l_parts : Cal l.prog w K mg base 2 "_law_parts" ["_law_plan_here"] sp_partsX := ⟨f16, _, ok_partsX F16 T c_l_split, PySem.W.mg_of X G a16, k16, F16.binds (ps := ["_law_plan_here"]) fun _ _ _ _ _ _ us hl => match us, hl with | [_], _ => rfl⟩
  have cw_l_parts : Cal l.prog w K mg base 2 "_law_parts" ["_law_plan_here"] sp_parts := by
    obtain ⟨f, fd, F, r⟩ := c_l_parts.ex
    exact ⟨f, fd, weak_parts F, r⟩
  have F17 := fun_mk (st := s_l_write) l17 c17 k17
  have c_l_write : Cal l.prog w K mg base 3 "_law_write" ["_law_pen_here", "_law_many", "_law_kinds", "_law_longest_row"] sp_write := ⟨f17, _, ok_write F17 T c_l_draw, PySem.W.mg_of X G a17, k17, F17.binds (ps := ["_law_pen_here", "_law_many", "_law_kinds", "_law_longest_row"]) fun _ _ _ _ _ _ us hl => match us, hl with | [_, _, _, _], _ => rfl⟩
  have F18 := fun_mk (st := s_l_drawn) l18 c18 k18
  have c_l_drawn : Cal l.prog w K mg base 4 "_law_drawn" ["_law_pen_here", "_law_many", "_law_most", "_law_kinds"] sp_drawn := ⟨f18, _, ok_drawn F18 T c_l_draw cw_l_parts c_l_write, PySem.W.mg_of X G a18, k18, F18.binds (ps := ["_law_pen_here", "_law_many", "_law_most", "_law_kinds"]) fun _ _ _ _ _ _ us hl => match us, hl with | [_, _, _, _], _ => rfl⟩
  have F19 := fun_mk (st := s_l_log) l19 c19 k19
  have c_l_log : Cal l.prog w K mg base 3 "_law_log" ["_law_pen_here", "_law_kinds"] sp_log := ⟨f19, _, ok_log F19 T c_l_draw, PySem.W.mg_of X G a19, k19, F19.binds (ps := ["_law_pen_here", "_law_kinds"]) fun _ _ _ _ _ _ us hl => match us, hl with | [_, _], _ => rfl⟩
  have F20 := fun_mk (st := s_l_copy) l20 c20 k20
  have c_l_copy : Cal l.prog w K mg base 3 "_law_copy" ["_law_pen_here", "_law_kinds"] sp_log := ⟨f20, _, ok_copy F20 T c_l_draw, PySem.W.mg_of X G a20, k20, F20.binds (ps := ["_law_pen_here", "_law_kinds"]) fun _ _ _ _ _ _ us hl => match us, hl with | [_, _], _ => rfl⟩
  have F21 := fun_mk (st := s_l_plan) l21 c21 k21
  have c_l_plan : Cal l.prog w K mg base 5 "_law_plan" ["_law_pen_here", "_law_most"] sp_plan := ⟨f21, _, ok_plan F21 T c_l_draw c_l_log c_l_copy c_l_drawn, PySem.W.mg_of X G a21, k21, F21.binds (ps := ["_law_pen_here", "_law_most"]) fun _ _ _ _ _ _ us hl => match us, hl with | [_, _], _ => rfl⟩
  have G_Plan := ok_initX (P := l.prog) (w := w) (base := base) F_Plan___init T TC c_is_content c_is_width c_are_steps c_epochs_of c_pieces_of
  have G_eq := ok_eq (P := l.prog) (w := w) (base := base) F_Plan___eq T TC
  have G_eo := ok_epoch_of (P := l.prog) (w := w) (base := base) F_Plan_epoch_of T TC X_CE c_is_index
  have F22 := fun_mk (st := s_l_plan_of) l22 c22 k22
  have c_l_plan_of : Cal l.prog w K mg base 8 "_law_plan_of" ["_law_plan_here"] (sp_plan_of C) := ⟨f22, _, ok_plan_of F22 T TC M_Plan___init G_Plan b_Plan___init, PySem.W.mg_of X G a22, k22, F22.binds (ps := ["_law_plan_here"]) fun _ _ _ _ _ _ us hl => match us, hl with | [_], _ => rfl⟩
  have F23 := fun_mk (st := s_l_ranks) l23 c23 k23
  have c_l_ranks : Cal l.prog w K mg base 3 "_law_ranks" ["_law_plan_here"] sp_ranks := ⟨f23, _, ok_ranks F23 T c_l_parts, PySem.W.mg_of X G a23, k23, F23.binds (ps := ["_law_plan_here"]) fun _ _ _ _ _ _ us hl => match us, hl with | [_], _ => rfl⟩
  have F24 := fun_mk (st := s_piece_epochs) l24 c24 k24
  have c_piece_epochs : Cal l.prog w K mg base 4 "piece_epochs" ["plan"] (sp_pe C) := ⟨f24, _, ok_pe F24 T TC M_Plan_epoch_of G_eo b_Plan_epoch_of P_pieces, PySem.W.mg_of X G a24, k24, F24.binds (ps := ["plan"]) fun _ _ _ _ _ _ us hl => match us, hl with | [_], _ => rfl⟩
  have F25 := fun_mk (st := s_is_fall) l25 c25 k25
  have c_is_fall : Cal l.prog w K mg base 5 "is_fall" ["plan", "thing"] (sp_is_fall K C) := ⟨f25, _, ok_is_fall F25 T t_zs c_piece_epochs c_is_index, PySem.W.mg_of X G a25, k25, F25.binds (ps := ["plan", "thing"]) fun _ _ _ _ _ _ us hl => match us, hl with | [_, _], _ => rfl⟩
  have F26 := fun_mk (st := s_l_nexts) l26 c26 k26
  have c_l_nexts : Cal l.prog w K mg base 1 "_law_nexts" ["_law_ranks_here", "_law_some_here"] sp_nexts := ⟨f26, _, ok_nexts F26 T, PySem.W.mg_of X G a26, k26, F26.binds (ps := ["_law_ranks_here", "_law_some_here"]) fun _ _ _ _ _ _ us hl => match us, hl with | [_, _], _ => rfl⟩
  have F27 := fun_mk (st := s_l_fall) l27 c27 k27
  have c_l_fall : Cal l.prog w K mg base 4 "_law_fall" ["_law_pen_here", "_law_plan_here"] sp_fall := ⟨f27, _, ok_fall F27 T c_l_draw c_l_ranks c_l_nexts, PySem.W.mg_of X G a27, k27, F27.binds (ps := ["_law_pen_here", "_law_plan_here"]) fun _ _ _ _ _ _ us hl => match us, hl with | [_, _], _ => rfl⟩
  have F28 := fun_mk (st := s_is_ascending) l28 c28 k28
  have c_is_ascending : Cal l.prog w K mg base 1 "is_ascending" ["things"] sp_ascT := ⟨f28, _, ok_ascT F28 T, PySem.W.mg_of X G a28, k28, F28.binds (ps := ["things"]) fun _ _ _ _ _ _ us hl => match us, hl with | [_], _ => rfl⟩
  have F29 := fun_mk (st := s_are_let) l29 c29 k29
  have c_are_let : Cal l.prog w K mg base 4 "are_let" ["thing"] (sp_let K) := ⟨f29, _, ok_let F29 T c_are_worths c_is_ascending, PySem.W.mg_of X G a29, k29, F29.binds (ps := ["thing"]) fun _ _ _ _ _ _ us hl => match us, hl with | [_], _ => rfl⟩
  have F30 := fun_mk (st := s_is_pattern) l30 c30 k30
  have c_is_pattern : Cal l.prog w K mg base 5 "is_pattern" ["cells", "thing"] (sp_is_pattern K) := ⟨f30, _, ok_is_pattern F30 T t_dict c_is_index c_are_let, PySem.W.mg_of X G a30, k30, F30.binds (ps := ["cells", "thing"]) fun _ _ _ _ _ _ us hl => match us, hl with | [_, _], _ => rfl⟩
  have F31 := fun_mk (st := s_agrees) l31 c31 k31
  have c_agrees : Cal l.prog w K mg base 1 "agrees" ["pattern", "content"] sp_agrees := ⟨f31, _, ok_agrees F31 T, PySem.W.mg_of X G a31, k31, F31.binds (ps := ["pattern", "content"]) fun _ _ _ _ _ _ us hl => match us, hl with | [_, _], _ => rfl⟩
  have F32 := fun_mk (st := s_l_is_met) l32 c32 k32
  have c_l_is_met : Cal l.prog w K mg base 1 "_law_is_met" ["_law_pattern_here", "_law_content_here"] sp_agrees := ⟨f32, _, ok_is_met F32 T, PySem.W.mg_of X G a32, k32, F32.binds (ps := ["_law_pattern_here", "_law_content_here"]) fun _ _ _ _ _ _ us hl => match us, hl with | [_, _], _ => rfl⟩
  have F33 := fun_mk (st := s_behind_piece) l33 c33 k33
  have c_behind_piece : Cal l.prog w K mg base 1 "behind_piece" ["content", "piece"] sp_behind := ⟨f33, _, ok_behind F33 T, PySem.W.mg_of X G a33, k33, F33.binds (ps := ["content", "piece"]) fun _ _ _ _ _ _ us hl => match us, hl with | [_, _], _ => rfl⟩
  have F34 := fun_mk (st := s_overwritten) l34 c34 k34
  have c_overwritten : Cal l.prog w K mg base 3 "overwritten" ["plan", "fall"] (sp_over C) := ⟨f34, _, ok_over F34 T TC P_base P_pieces c_behind_piece, PySem.W.mg_of X G a34, k34, F34.binds (ps := ["plan", "fall"]) fun _ _ _ _ _ _ us hl => match us, hl with | [_, _], _ => rfl⟩
  have F35 := fun_mk (st := s_l_left) l35 c35 k35
  have c_l_left : Cal l.prog w K mg base 3 "_law_left" ["_law_plan_here", "_law_some_here"] sp_left := ⟨f35, _, ok_left F35 T c_l_parts, PySem.W.mg_of X G a35, k35, F35.binds (ps := ["_law_plan_here", "_law_some_here"]) fun _ _ _ _ _ _ us hl => match us, hl with | [_, _], _ => rfl⟩
  have F36 := fun_mk (st := s_l_some) l36 c36 k36
  have c_l_some : Cal l.prog w K mg base 3 "_law_some" ["_law_pen_here", "_law_pool", "_law_most"] sp_someV := ⟨f36, _, ok_someV F36 T c_l_draw, PySem.W.mg_of X G a36, k36, F36.binds (ps := ["_law_pen_here", "_law_pool", "_law_most"]) fun _ _ _ _ _ _ us hl => match us, hl with | [_, _, _], _ => rfl⟩
  have F37 := fun_mk (st := s_l_pattern) l37 c37 k37
  have c_l_pattern : Cal l.prog w K mg base 5 "_law_pattern" ["_law_pen_here", "_law_plan_here"] sp_lpattern := ⟨f37, _, ok_lpattern F37 T t_zo c_l_draw c_l_fall c_l_left c_l_some, PySem.W.mg_of X G a37, k37, F37.binds (ps := ["_law_pen_here", "_law_plan_here"]) fun _ _ _ _ _ _ us hl => match us, hl with | [_, _], _ => rfl⟩
  have F38 := fun_mk (st := s_l_is_whole) l38 c38 k38
  have c_l_is_whole : Cal l.prog w K mg base 1 "_law_is_whole" ["_law_thing", "_law_low", "_law_under"] (sp_whole K) := ⟨f38, _, ok_whole F38 T, PySem.W.mg_of X G a38, k38, F38.binds (ps := ["_law_thing", "_law_low", "_law_under"]) fun _ _ _ _ _ _ us hl => match us, hl with | [_, _, _], _ => rfl⟩
  have F39 := fun_mk (st := s_l_is_fall) l39 c39 k39
  have c_l_is_fall : Cal l.prog w K mg base 4 "_law_is_fall" ["_law_plan_here", "_law_thing"] (sp_lis_fall K) := ⟨f39, _, ok_lis_fall F39 T t_za c_l_ranks c_l_is_whole, PySem.W.mg_of X G a39, k39, F39.binds (ps := ["_law_plan_here", "_law_thing"]) fun _ _ _ _ _ _ us hl => match us, hl with | [_, _], _ => rfl⟩
  have mostG : ∃ t, mg "MOST_GUARDS" = some (.int 99 t) := ⟨_, PySem.W.mg_of X G m3⟩
  have F40 := fun_mk (st := s_are_guards) l40 c40 k40
  have c_are_guards : Cal l.prog w K mg base 6 "are_guards" ["plan", "thing"] (sp_are_guards C) := ⟨f40, _, ok_are_guards F40 T TC mostG P_base c_is_pattern, PySem.W.mg_of X G a40, k40, F40.binds (ps := ["plan", "thing"]) fun _ _ _ _ _ _ us hl => match us, hl with | [_, _], _ => rfl⟩
  have F41 := fun_mk (st := s_check_guards) l41 c41 k41
  have c_check_guards : Cal l.prog w K mg base 7 "check_guards" ["plan", "guards"] (sp_check_guards C) := ⟨f41, _, ok_check_guards F41 T c_are_guards, PySem.W.mg_of X G a41, k41, F41.binds (ps := ["plan", "guards"]) fun _ _ _ _ _ _ us hl => match us, hl with | [_, _], _ => rfl⟩
  have F42 := fun_mk (st := s_does_harm) l42 c42 k42
  have c_does_harm : Cal l.prog w K mg base 6 "does_harm" ["plan", "guards", "guard", "fall"] (sp_does_harm K C) := ⟨f42, _, ok_does_harm F42 T c_is_index c_is_fall c_agrees c_overwritten, PySem.W.mg_of X G a42, k42, F42.binds (ps := ["plan", "guards", "guard", "fall"]) fun _ _ _ _ _ _ us hl => match us, hl with | [_, _, _, _], _ => rfl⟩
  have F43 := fun_mk (st := s_is_harm) l43 c43 k43
  have c_is_harm : Cal l.prog w K mg base 8 "is_harm" ["plan", "guards", "thing"] (sp_is_harm K C) := ⟨f43, _, ok_is_harm F43 T c_check_guards c_does_harm, PySem.W.mg_of X G a43, k43, F43.binds (ps := ["plan", "guards", "thing"]) fun _ _ _ _ _ _ us hl => match us, hl with | [_, _, _], _ => rfl⟩
  have F44 := fun_mk (st := s_l_is_harm) l44 c44 k44
  have c_l_is_harm : Cal l.prog w K mg base 5 "_law_is_harm" ["_law_plan_here", "_law_guards_here", "_law_thing"] (sp_lis_harm K (fun _ => True)) := ⟨f44, _, ok_lis_harm F44 T c_l_is_whole c_l_is_fall c_l_is_met c_l_left, PySem.W.mg_of X G a44, k44, F44.binds (ps := ["_law_plan_here", "_law_guards_here", "_law_thing"]) fun _ _ _ _ _ _ us hl => match us, hl with | [_, _, _], _ => rfl⟩
  have F45 := fun_mk (st := s_l_near) l45 c45 k45
  have c_l_near : Cal l.prog w K mg base 3 "_law_near" ["_law_pen_here", "_law_index", "_law_some_here", "_law_many"] (sp_near K) := ⟨f45, _, ok_near F45 T t_zst c_l_draw, PySem.W.mg_of X G a45, k45, F45.binds (ps := ["_law_pen_here", "_law_index", "_law_some_here", "_law_many"]) fun _ _ _ _ _ _ us hl => match us, hl with | [_, _, _, _], _ => rfl⟩
  exact ok_law (fun_mk (st := s_law) l46 c46 k46) T t_repr TC O G_eq b_Plan___eq M_Plan___init G_Plan b_Plan___init c_l_pen c_l_draw c_l_plan c_l_plan_of c_l_parts c_l_fall c_l_pattern c_l_near c_is_harm c_l_is_harm
theorem walk {l : PySem.W.OpenLaw} {q : Program} {loose : List Str} {XP : (Str → Option Value) → Heap → Prop} {YP : World → Heap → Prop} {d : DefRec} {K : Params → PySem.W.Frag} (hn : l.most = some 63) (hdf : d.params.defaults = [])
    (hY : ∀ (w : World) (h : Heap), YP w h → (K w.params).In h)
    (F : ∀ (w : World) (mg : Str → Option Value) (fa : Addr) (h : Heap), (K w.params).In h → h.Ns mainGlobals mg → mg d.name = some (.ref fa) →
      ∃ fd : FuncData, (∀ (s : Shared) (u : Value), BindsTo s fd ⟨[u], []⟩ [("_law_script", u)]) ∧ ∀ base : Heap, (K w.params).In base → base.Ns mainGlobals mg → FnG l.prog w (K w.params) mg base 10 fa fd ["_law_script"] (sp_law (K w.params))) :
    PySem.W.WalkO q loose XP YP l.row.toRowW d [] (fun f vs => PySem.call f vs) :=
  walkG (n := 63) (k := 10) (x := "_law_script") (sp := fun w => sp_law (K w.params)) hn (by decide) hdf ⟨rfl, by decide, by decide⟩ hY F fun _ _ a ns hl _ hS => ⟨a, ns, rfl, hS, fun _ => rfl⟩
end Af

open PySem PySem.W PyProof.Rows in
set_option maxRecDepth 100000 in
set_option maxHeartbeats 0 in
theorem PySem.Challenge.cw_afterfall_k36_harm_known_holds : PySem.Challenge.rw_afterfall_k36_harm_known.Holds := by
  w_on; o_law; k_head; (case hw => w_witness2)
  k_fill
  refine Af.walk (l := PySem.Challenge.rw_afterfall_k36_harm_known) rfl rfl (fun w h Y => PySem.W.kIn_of Y) ?F
  case F =>
    intro w mg fa h KX G hmg
    refine' Af.all_mk KX G hmg ?a1 ?l1 ?c1 ?k1 ?a2 ?l2 ?c2 ?k2 ?a3 ?l3 ?c3 ?k3 ?a4 ?l4 ?c4 ?k4 ?a5 ?l5 ?c5 ?k5 ?a6 ?l6 ?c6 ?k6 ?a7 ?l7 ?c7 ?k7 ?a8 ?l8 ?c8 ?k8 ?a9 ?l9 ?c9 ?k9 ?a10 ?l10 ?c10 ?k10 ?a11 ?l11 ?c11 ?k11 ?a12 ?l12 ?c12 ?k12 ?a13 ?l13 ?c13 ?k13 ?a14 ?l14 ?c14 ?k14 ?a15 ?l15 ?c15 ?k15 ?a16 ?l16 ?c16 ?k16 ?a17 ?l17 ?c17 ?k17 ?a18 ?l18 ?c18 ?k18 ?a19 ?l19 ?c19 ?k19 ?a20 ?l20 ?c20 ?k20 ?a21 ?l21 ?c21 ?k21 ?a22 ?l22 ?c22 ?k22 ?a23 ?l23 ?c23 ?k23 ?a24 ?l24 ?c24 ?k24 ?a25 ?l25 ?c25 ?k25 ?a26 ?l26 ?c26 ?k26 ?a27 ?l27 ?c27 ?k27 ?a28 ?l28 ?c28 ?k28 ?a29 ?l29 ?c29 ?k29 ?a30 ?l30 ?c30 ?k30 ?a31 ?l31 ?c31 ?k31 ?a32 ?l32 ?c32 ?k32 ?a33 ?l33 ?c33 ?k33 ?a34 ?l34 ?c34 ?k34 ?a35 ?l35 ?c35 ?k35 ?a36 ?l36 ?c36 ?k36 ?a37 ?l37 ?c37 ?k37 ?a38 ?l38 ?c38 ?k38 ?a39 ?l39 ?c39 ?k39 ?a40 ?l40 ?c40 ?k40 ?a41 ?l41 ?c41 ?k41 ?a42 ?l42 ?c42 ?k42 ?a43 ?l43 ?c43 ?k43 ?a44 ?l44 ?c44 ?k44 ?a45 ?l45 ?c45 ?k45 ?a46 ?l46 ?c46 ?k46 ?aC ?a47 ?i47 ?l47 ?c47 ?k47 ?a48 ?i48 ?l48 ?c48 ?k48 ?a49 ?i49 ?l49 ?c49 ?k49 ?a50 ?i50 ?j50 ?r50 ?l50 ?c50 ?k50 ?a51 ?i51 ?j51 ?r51 ?l51 ?c51 ?k51 ?pg ?hd ?po ?sa ?mk ?kc ?ic ?tc ?ha ?hn ?htk ?hm ?hne ?n0 ?n1 ?n2 ?n3 ?n4 ?n5 ?gCF ?gCE ?yb ?yd ?yt ?xxCE ?xkCE ?xbCE ?xtCE ?xdCE ?xcCE ?xmCE ?xgaCE ?xgtCE ?yeCE ?zr ?z0 ?z1 ?z2 ?z3 ?z4 ?z5 ?z6 ?z7 ?z8 ?z9 ?z10 ?zs ?dict ?zo ?za ?zst ?m0 ?m1 ?m2 ?m3 ?u0 ?w0 ?x0 ?y0
    (case a1 => k_is)
    (case l1 => k_is)
    (case c1 => k_is)
    (case k1 => k_is)
    (case a2 => k_is)
    (case l2 => k_is)
    (case c2 => k_is)
    (case k2 => k_is)
    (case a3 => k_is)
    (case l3 => k_is)
    (case c3 => k_is)
    (case k3 => k_is)
    (case a4 => k_is)
    (case l4 => k_is)
    (case c4 => k_is)
    (case k4 => k_is)
    (case a5 => k_is)
    (case l5 => k_is)
    (case c5 => k_is)
    (case k5 => k_is)
    (case a6 => k_is)
    (case l6 => k_is)
    (case c6 => k_is)
    (case k6 => k_is)
    (case a7 => k_is)
    (case l7 => k_is)
    (case c7 => k_is)
    (case k7 => k_is)
    (case a8 => k_is)
    (case l8 => k_is)
    (case c8 => k_is)
    (case k8 => k_is)
    (case a9 => k_is)
    (case l9 => k_is)
    (case c9 => k_is)
    (case k9 => k_is)
    (case a10 => k_is)
    (case l10 => k_is)
    (case c10 => k_is)
    (case k10 => k_is)
    (case a11 => k_is)
    (case l11 => k_is)
    (case c11 => k_is)
    (case k11 => k_is)
    (case a12 => k_is)
    (case l12 => k_is)
    (case c12 => k_is)
    (case k12 => k_is)
    (case a13 => k_is)
    (case l13 => k_is)
    (case c13 => k_is)
    (case k13 => k_is)
    (case a14 => k_is)
    (case l14 => k_is)
    (case c14 => k_is)
    (case k14 => k_is)
    (case a15 => k_is)
    (case l15 => k_is)
    (case c15 => k_is)
    (case k15 => k_is)
    (case a16 => k_is)
    (case l16 => k_is)
    (case c16 => k_is)
    (case k16 => k_is)
    (case a17 => k_is)
    (case l17 => k_is)
    (case c17 => k_is)
    (case k17 => k_is)
    (case a18 => k_is)
    (case l18 => k_is)
    (case c18 => k_is)
    (case k18 => k_is)
    (case a19 => k_is)
    (case l19 => k_is)
    (case c19 => k_is)
    (case k19 => k_is)
    (case a20 => k_is)
    (case l20 => k_is)
    (case c20 => k_is)
    (case k20 => k_is)
    (case a21 => k_is)
    (case l21 => k_is)
    (case c21 => k_is)
    (case k21 => k_is)
    (case a22 => k_is)
    (case l22 => k_is)
    (case c22 => k_is)
    (case k22 => k_is)
    (case a23 => k_is)
    (case l23 => k_is)
    (case c23 => k_is)
    (case k23 => k_is)
    (case a24 => k_is)
    (case l24 => k_is)
    (case c24 => k_is)
    (case k24 => k_is)
    (case a25 => k_is)
    (case l25 => k_is)
    (case c25 => k_is)
    (case k25 => k_is)
    (case a26 => k_is)
    (case l26 => k_is)
    (case c26 => k_is)
    (case k26 => k_is)
    (case a27 => k_is)
    (case l27 => k_is)
    (case c27 => k_is)
    (case k27 => k_is)
    (case a28 => k_is)
    (case l28 => k_is)
    (case c28 => k_is)
    (case k28 => k_is)
    (case a29 => k_is)
    (case l29 => k_is)
    (case c29 => k_is)
    (case k29 => k_is)
    (case a30 => k_is)
    (case l30 => k_is)
    (case c30 => k_is)
    (case k30 => k_is)
    (case a31 => k_is)
    (case l31 => k_is)
    (case c31 => k_is)
    (case k31 => k_is)
    (case a32 => k_is)
    (case l32 => k_is)
    (case c32 => k_is)
    (case k32 => k_is)
    (case a33 => k_is)
    (case l33 => k_is)
    (case c33 => k_is)
    (case k33 => k_is)
    (case a34 => k_is)
    (case l34 => k_is)
    (case c34 => k_is)
    (case k34 => k_is)
    (case a35 => k_is)
    (case l35 => k_is)
    (case c35 => k_is)
    (case k35 => k_is)
    (case a36 => k_is)
    (case l36 => k_is)
    (case c36 => k_is)
    (case k36 => k_is)
    (case a37 => k_is)
    (case l37 => k_is)
    (case c37 => k_is)
    (case k37 => k_is)
    (case a38 => k_is)
    (case l38 => k_is)
    (case c38 => k_is)
    (case k38 => k_is)
    (case a39 => k_is)
    (case l39 => k_is)
    (case c39 => k_is)
    (case k39 => k_is)
    (case a40 => k_is)
    (case l40 => k_is)
    (case c40 => k_is)
    (case k40 => k_is)
    (case a41 => k_is)
    (case l41 => k_is)
    (case c41 => k_is)
    (case k41 => k_is)
    (case a42 => k_is)
    (case l42 => k_is)
    (case c42 => k_is)
    (case k42 => k_is)
    (case a43 => k_is)
    (case l43 => k_is)
    (case c43 => k_is)
    (case k43 => k_is)
    (case a44 => k_is)
    (case l44 => k_is)
    (case c44 => k_is)
    (case k44 => k_is)
    (case a45 => k_is)
    (case l45 => k_is)
    (case c45 => k_is)
    (case k45 => k_is)
    (case a46 => k_is)
    (case l46 => k_is)
    (case c46 => k_is)
    (case k46 => k_is)
    (case aC => k_is)
    (case a47 => k_is)
    (case i47 => k_is)
    (case l47 => k_is)
    (case c47 => k_is)
    (case k47 => k_is)
    (case a48 => k_is)
    (case i48 => k_is)
    (case l48 => k_is)
    (case c48 => k_is)
    (case k48 => k_is)
    (case a49 => k_is)
    (case i49 => k_is)
    (case l49 => k_is)
    (case c49 => k_is)
    (case k49 => k_is)
    (case a50 => k_is)
    (case i50 => k_is)
    (case j50 => k_is)
    (case r50 => k_is)
    (case l50 => k_is)
    (case c50 => k_is)
    (case k50 => k_is)
    (case a51 => k_is)
    (case i51 => k_is)
    (case j51 => k_is)
    (case r51 => k_is)
    (case l51 => k_is)
    (case c51 => k_is)
    (case k51 => k_is)
    (case pg => k_is)
    (case hd => k_is)
    (case po => k_is)
    (case sa => k_is)
    (case mk => k_is)
    (case kc => k_is)
    (case ic => k_is)
    (case tc => k_is)
    (case ha => k_is)
    (case hn => k_is)
    (case htk => k_is)
    (case hm => k_is)
    (case hne => k_is)
    (case n0 => k_is)
    (case n1 => k_is)
    (case n2 => k_is)
    (case n3 => k_is)
    (case n4 => k_is)
    (case n5 => k_is)
    (case gCF => k_is)
    (case gCE => k_is)
    (case yb => k_is)
    (case yd => k_is)
    (case yt => k_is)
    (case xxCE => k_exc)
    (case xkCE => k_is)
    (case xbCE => k_is)
    (case xtCE => k_is)
    (case xdCE => k_is)
    (case xcCE => k_is)
    (case xmCE => k_is)
    (case xgaCE => k_is)
    (case xgtCE => k_is)
    (case yeCE => k_is)
    (case zr => k_is)
    (case z0 => k_is)
    (case z1 => k_is)
    (case z2 => k_is)
    (case z3 => k_is)
    (case z4 => k_is)
    (case z5 => k_is)
    (case z6 => k_is)
    (case z7 => k_is)
    (case z8 => k_is)
    (case z9 => k_is)
    (case z10 => k_is)
    (case zs => k_is)
    (case dict => k_is)
    (case zo => k_is)
    (case za => k_is)
    (case zst => k_is)
    (case m0 => k_is)
    (case m1 => k_is)
    (case m2 => k_is)
    (case m3 => k_is)
    (case u0 => k_is)
    (case w0 => k_is)
    (case x0 => decide)
    (case y0 => exact .cons ⟨_, rfl⟩ (.cons ⟨_, rfl⟩ (.cons ⟨_, rfl⟩ (.cons ⟨_, rfl⟩ (.cons ⟨_, rfl⟩ (.cons ⟨_, rfl⟩ (.cons ⟨_, rfl⟩ (.cons ⟨_, rfl⟩ .nil))))))))

