import PyProof.Rows.All
import Wide.All
import OpenK.AllK
import Wide.FinOn
import HandS.ForMost
import HandS.ForExc
import HandS.IsInst
import HandS.TupAny
import HandS.TupMul
import HandS.Zip
import HandS.Star
import HandS.Flt
import HandS.Defaults
import HandS.Gcd
import HandS.Wide
import PySem.Challenge.RW_boundstead_k84_boxes_told_apart
set_option Elab.async false
set_option linter.all false
set_option maxRecDepth 100000
namespace Bx
open PySem L2
section
variable {X : Cx}
/-! ### joined rules -/
def rAddX (K : PySem.W.Frag) : R2 := fun x y H Q => (∃ i j, x = .int i ∧ y = .int j ∧ Q (.int (i + j)) H) ∨ rCat x y H Q ∨ rCatA K x y H Q
theorem op_addX : OpR X (binaryOp .Add) (rAddX X.K) := op_add.or (op_cat.or op_catA)
def rMulX (K : PySem.W.Frag) : R2 := fun x y H Q => (∃ i j, x = .int i ∧ y = .int j ∧ IntMulOk i j ∧ Q (.int (i * j)) H) ∨ rRepT K x y H Q
theorem op_mulA : OpR X (binaryOp .Mult) (rI IntMulOk fun i j => .int (i * j)) := opI fun _ _ _ _ _ _ _ hc q => PyProof.Rows.mul_int q hc
theorem op_mulX : OpR X (binaryOp .Mult) (rMulX X.K) := op_mulA.or op_repT
def rEqX (K : PySem.W.Frag) : R2 := fun x y H Q => rEq x y H Q ∨ rEqD K x y H Q
theorem op_eqX (hu : X.A.units + 64 < cLine) : OpR X (compareOp .Eq) (rEqX X.K) := op_eq.or (op_eqD hu)
def rNeX (K : PySem.W.Frag) : R2 := fun x y H Q => rNe x y H Q ∨ rNeD K x y H Q
theorem op_neX (hu : X.A.units + 64 < cLine) : OpR X (compareOp .NotEq) (rNeX X.K) := op_ne.or (op_neD hu)
def rIxX (K : PySem.W.Frag) : R2 := fun x y H Q => rIxL K x y H Q ∨ rIxT K x y H Q
theorem ix_X : IxR X (rIxX X.K) := ix_list.or ix_tup
def rSlX (K : PySem.W.Frag) : V → Option Int → Option Int → Hp → VK → Prop := fun x lo hi H Q => rSlL K x lo hi H Q ∨ rSlA K x lo hi H Q
theorem sl_X : SlR X (rSlX X.K) := sl_list.or sl_tupA
def gX (K : PySem.W.Frag) (n : Nat) (t : TGs) : TG := fun v σ H Q => gTup K n t v σ H Q ∨ gLst K n t v σ H Q
theorem pg_X {es : List Expr} {k : Nat} {t : TGs} {n : Nat} {pos : Pos} (hc : X.calm = true) (h : PGs X es t)
    (hn : (assignEach es X.env).length = n := by rfl) (hst : (assignEach es X.env).findIdx? (·.1) = none := by rfl) : PG X (.Tuple es k pos) (gX X.K n t) :=
  ⟨fun pins s σ H v u Q I r q => q.elim (fun q => (pg_tup hc h hn hst).run pins s σ H v u Q I r q) fun q => (pg_lst hc h hn hst).run pins s σ H v u Q I r q⟩
/-- a list or a tuple walked -/
def iX (K : PySem.W.Frag) (tl : TE) : TI := fun σ H R => tl σ H fun x H1 => ∃ a, x = .ref a ∧ (((∃ xs, SqL K H1 a xs) ∧ R (Itl K a) H1) ∨ ((∃ xs, SqT K H1 a xs) ∧ R (Itt K a) H1))
theorem pi_X {tg l : Expr} {tl : TE} (hl : PE X l tl) : PI X tg l (iX X.K tl) := by
  refine ⟨fun pins s σ H R I h => ?_⟩
  refine thn (hl.run pins s σ H _ I h) fun v s1 ⟨x, H1, I1, r1, q1⟩ => ?_
  obtain ⟨a, e, q⟩ := q1
  subst e
  cases r1
  rcases q with ⟨⟨xs, hq⟩, q⟩ | ⟨⟨xs, hq⟩, q⟩
  · obtain ⟨its, rv, p, hz⟩ := I1.list hq
    refine wpAny_pyIter_list p.isList ?_
    refine ⟨s1.heap.objs.size, [s1.heap.objs.size], _, _, H1, rfl, I1.kept (t' := s1.toks) fun b o e => Heap.get?_push_of_some _ e, turn_list a _, ⟨_, Heap.get?_push_size _ rfl, rfl, rfl⟩, fun b hb => ?_, q⟩
    have e : b = s1.heap.objs.size := by simpa using hb
    subst e
    exact I1.fpOk (Nat.le_refl _) (I1.hok.fresh (Nat.le_refl _))
  · obtain ⟨its, rv, p, hz⟩ := I1.tuple hq
    refine wpAny_pyIter_tuple (show s1.heap.IsTuple a its.toArray from p) ?_
    refine ⟨s1.heap.objs.size, [s1.heap.objs.size], _, _, H1, rfl, I1.kept (t' := s1.toks) fun b o e => Heap.get?_push_of_some _ e, turn_tuple a _, ⟨_, Heap.get?_push_size _ rfl, rfl, rfl⟩, fun b hb => ?_, q⟩
    have e : b = s1.heap.objs.size := by simpa using hb
    subst e
    exact I1.fpOk (Nat.le_refl _) (I1.hok.fresh (Nat.le_refl _))
end
/-! ### named rules -/
section
variable {X : Cx}
def rSub : R2 := fun x y H Q => ∃ i j, x = .int i ∧ y = .int j ∧ Q (.int (i - j)) H
theorem o_sub : OpR X (binaryOp .Sub) rSub := op_sub
def CDivA (_ j : Int) : Prop := j ≠ 0 ∧ j.natAbs.log2 < 9000
def rFdv : R2 := fun x y H Q => ∃ i j, x = .int i ∧ y = .int j ∧ CDivA i j ∧ Q (.int (i.fdiv j)) H
theorem o_fdiv : OpR X (binaryOp .FloorDiv) rFdv := opI (C := CDivA) (g := fun i j => i.fdiv j) fun i j _ _ _ _ _ hc q => PyProof.Rows.floordiv_int hc.1 q (.inl (PyProof.noPylong_of_log2 hc.2))
def rModI : R2 := fun x y H Q => ∃ i j, x = .int i ∧ y = .int j ∧ 0 < j ∧ Q (.int (i % j)) H
theorem o_mod : OpR X (binaryOp .Mod) rModI := op_mod
def rPow : R2 := fun x y H Q => ∃ i j, x = .int i ∧ y = .int j ∧ CPow i j ∧ Q (.int (i ^ j.toNat)) H
theorem o_pow : OpR X (binaryOp .Pow) rPow := op_pow
def rLt : R2 := fun x y H Q => ∃ i j, x = .int i ∧ y = .int j ∧ Q (.bl (decide (i < j))) H
theorem o_lt : OpR X (compareOp .Lt) rLt := op_lt
def rLe : R2 := fun x y H Q => ∃ i j, x = .int i ∧ y = .int j ∧ Q (.bl (decide (i ≤ j))) H
theorem o_le : OpR X (compareOp .LtE) rLe := op_le
def rGt : R2 := fun x y H Q => ∃ i j, x = .int i ∧ y = .int j ∧ Q (.bl (decide (j < i))) H
theorem o_gt : OpR X (compareOp .Gt) rGt := op_gt
def rGe : R2 := fun x y H Q => ∃ i j, x = .int i ∧ y = .int j ∧ Q (.bl (decide (j ≤ i))) H
theorem o_ge : OpR X (compareOp .GtE) rGe := op_ge
def rNeg : V → Hp → VK → Prop := fun x H Q => ∃ i, x = .int i ∧ Q (.int (-i)) H
theorem u_neg : UnR X (unaryOp .USub) rNeg := un_neg
def rIsNon : R2 := fun x y H Q => y = .non ∧ Q (.bl (decide (x = .non))) H
theorem o_isN : OpR X (compareOp .Is) rIsNon := op_isN
def rNotNon : R2 := fun x y H Q => y = .non ∧ Q (.bl (!decide (x = .non))) H
theorem o_notN : OpR X (compareOp .IsNot) rNotNon := op_notN
def rLen (K : PySem.W.Frag) : List V → Hp → VK → Prop := fun xs H Q => ∃ p ys, xs = [.ref p] ∧ (SqL K H p ys ∨ SqT K H p ys) ∧ Q (.int ys.length) H
theorem c_len : CallR X (.builtin "len") (rLen X.K) := call_len_seq
def rAbs : List V → Hp → VK → Prop := fun xs H Q => ∃ i, xs = [.int i] ∧ Q (.int (if i < 0 then -i else i)) H
theorem c_abs : CallR X (.builtin "abs") rAbs := call_abs
def rIntO : List V → Hp → VK → Prop := fun xs H Q => (∃ i, xs = [.int i] ∧ Q (.int i) H) ∨ ∃ k, xs = [.bl k] ∧ Q (.int (if k then 1 else 0)) H
theorem c_int : CallR X (.type "int") rIntO := call_int1
def rTupOf (K : PySem.W.Frag) : List V → Hp → VK → Prop := fun xs H Q => ∃ p ys, xs = [.ref p] ∧ ((SqL K H p ys ∧ ∀ l, H l = none → Q (.ref l) (upd H l (.tup ys))) ∨ (SqT K H p ys ∧ Q (.ref p) H))
theorem c_tuple : CallR X (.type "tuple") (rTupOf X.K) := call_tuple_of
def rMx2 : List V → Hp → VK → Prop := fun xs H Q => ∃ i j, xs = [.int i, .int j] ∧ Q (.int (if j > i then j else i)) H
theorem c_max2 (hc : X.calm = true) : CallR X (.builtin "max") rMx2 := call_max2 hc
def rMn2 : List V → Hp → VK → Prop := fun xs H Q => ∃ i j, xs = [.int i, .int j] ∧ Q (.int (if j < i then j else i)) H
theorem c_min2 (hc : X.calm = true) : CallR X (.builtin "min") rMn2 := call_min2 hc
def rMx3 : List V → Hp → VK → Prop := rNuC3 nuMax3
theorem c_max3 (hc : X.calm = true) : CallR X (.builtin "max") rMx3 := call_max3Nu hc
end
/-- ways joined behind a statement -/
def tCut (t u : TS) : TS := fun D σ H => ∃ Mid : L2.St → Hp → Prop, t { D with nx := Mid } σ H ∧ ∀ σ' H', Mid σ' H' → u D σ' H'
theorem pss_cut {X : Cx} {st : Stmt} {rest : List Stmt} {t u : TS} (h1 : PS X st t) (h2 : PSs X rest u) : PSs X (st :: rest) (tCut t u) := by
  refine ⟨fun pins s σ H D I h => ?_⟩
  obtain ⟨Mid, hm, hu⟩ := h
  refine wpAny_execs_cons (thn (h1.run pins s σ H { D with nx := Mid } I hm) fun f s1 q => ?_)
  cases f with
  | next =>
    obtain ⟨σ', H', I', q⟩ := q
    exact h2.run pins s1 σ' H' D I' (hu σ' H' q)
  | ret v => exact q
  | brk => exact q
  | cont => exact q
/-! ### defs as a bundle, their calls -/
structure Ok (P : Program) (w : World) (K : PySem.W.Frag) (mg : Str → Option Value) (base : Heap) (k : Nat) (x : Str) (ps : List Str) (sp : Sp) : Prop where
  ex : ∃ f fd, FnOk P w K mg base CX0 k f fd ps sp ∧ mg x = some (.ref f) ∧ PySem.W.keepIn K (.ref f) = true ∧ Binds K fd ps []
theorem Ok.imp {P : Program} {w : World} {K : PySem.W.Frag} {mg : Str → Option Value} {base : Heap} {k : Nat} {x : Str} {ps : List Str} {sp sp' : Sp} (O : Ok P w K mg base k x ps sp) (h : ∀ vs H Q E, sp' vs H Q E → sp vs H Q E) : Ok P w K mg base k x ps sp' := by
  obtain ⟨f, fd, F, a, b, c⟩ := O.ex
  exact ⟨f, fd, F.imp h, a, b, c⟩
def tCallO (sp : Sp) (t : TA) : TE := fun σ H Q => t σ H fun vs H1 => sp vs H1 Q E0
theorem pe_cO {X : Cx} {k : Nat} {x : Str} {ps : List Str} {sp : Sp} {e : Expr} {es : List Expr} {t : TA} {p pos : Pos} (O : Ok X.prog X.w X.K X.mg X.base k x ps sp) (hr : Room k X.A) (hg : Gl X x) (ha : PA X (e :: es) t)
    (hdb : (x == ("__debug__" : Str)) = false := by decide) (he : starEach (e :: es) X.env = (false, eval e X.env) :: starEach es X.env := by rfl) (hpl : (backTo pos (starEach es X.env)).any (·.1) = false := by rfl) :
    PE X (.Call (.Name x p) (e :: es) [] pos) (tCallO sp t) := by
  obtain ⟨f, fd, F, hm, hk, hb⟩ := O.ex
  refine ⟨fun pins s σ H Q I h => (pe_call (E := E0) F hr hg hm hk hb .nil pass0 ha hdb he hpl).run pins s σ H Q I ?_⟩
  have e1 : (fun (vs : List V) H1 => sp (vs ++ []) H1 Q E0) = fun vs H1 => sp vs H1 Q E0 := by
    funext vs H1
    rw [List.append_nil]
  show t σ H fun vs H1 => sp (vs ++ []) H1 Q E0
  rw [e1]
  exact h
/-- with keywords: n places, then the names ks; idx says where each further parameter's value stands among them -/
structure OkK (P : Program) (w : World) (K : PySem.W.Frag) (mg : Str → Option Value) (base : Heap) (k : Nat) (x : Str) (ps : List Str) (sp : Sp) (n : Nat) (ks : List Str) (idx : List Nat) : Prop where
  ex : ∃ f fd, FnOk P w K mg base CX0 k f fd ps sp ∧ mg x = some (.ref f) ∧ PySem.W.keepIn K (.ref f) = true ∧
    ∀ us ws : List Value, us.length = n → ws.length = ks.length → bindArgs fd ⟨us, ks.zip ws⟩ = pure (ps.zip (us ++ idx.map fun i => ws.getD i .none))
theorem vals_getD : ∀ {zs : List V} {ws : List Value} (_ : Vals zs ws) (i : Nat), RelV (zs.getD i .non) (ws.getD i .none)
  | _, _, .nil, i => by
    show Value.none = Value.none
    rfl
  | _, _, .cons r rs, 0 => r
  | _, _, .cons r rs, i + 1 => vals_getD rs i
theorem vals_idx {zs : List V} {ws : List Value} (h : Vals zs ws) : ∀ idx : List Nat, Vals (idx.map fun i => zs.getD i .non) (idx.map fun i => ws.getD i .none)
  | [] => .nil
  | i :: l => .cons (vals_getD h i) (vals_idx h l)
theorem OkK.kbn {P : Program} {w : World} {K : PySem.W.Frag} {mg : Str → Option Value} {base : Heap} {k n : Nat} {x : Str} {ps ks : List Str} {sp : Sp} {idx : List Nat} (O : OkK P w K mg base k x ps sp n ks idx) :
    ∃ f fd, FnOk P w K mg base CX0 k f fd ps sp ∧ mg x = some (.ref f) ∧ PySem.W.keepIn K (.ref f) = true ∧ KBn K fd ps n ks (fun us ws => us ++ idx.map fun i => ws.getD i .none) (fun vs zs => vs ++ idx.map fun i => zs.getD i .non) := by
  obtain ⟨f, fd, F, a, b, c⟩ := O.ex
  exact ⟨f, fd, F, a, b, fun s us ws _ h1 h2 => .of_eq (c us ws h1 h2), fun r1 r2 => r1.append (vals_idx r2 idx)⟩
def tCallOK (n m : Nat) (sp : Sp) (idx : List Nat) (t tk : TA) : TE := fun σ H Q => t σ H fun vs H1 => tk σ H1 fun zs H2 => vs.length = n ∧ zs.length = m ∧ sp (vs ++ idx.map fun i => zs.getD i .non) H2 Q E0
section
variable {X : Cx} {k n : Nat} {x : Str} {ps ks : List Str} {sp : Sp} {idx : List Nat} {e : Expr} {es : List Expr} {kws : List Keyword} {t tk : TA} {p pos : Pos}
theorem pe_cK {m : Nat} (O : OkK X.prog X.w X.K X.mg X.base k x ps sp n ks idx) (hr : Room k X.A) (hg : Gl X x) (ha : PA X (e :: es) t) (hkw : PK X kws tk)
    (hall : (backToKw pos (keywordEach kws X.env)).all (·.1.isSome) = true := by rfl) (hks : (backToKw pos (keywordEach kws X.env)).filterMap (·.1) = ks := by rfl)
    (hdb : (x == ("__debug__" : Str)) = false := by decide) (hm : ks.length = m := by rfl) (he : starEach (e :: es) X.env = (false, eval e X.env) :: starEach es X.env := by rfl)
    (hpl : ((backTo pos (starEach (e :: es) X.env)).any (·.1) || (backToKw pos (keywordEach kws X.env)).any (·.1.isNone)) = false := by rfl) :
    PE X (.Call (.Name x p) (e :: es) kws pos) (tCallOK n m sp idx t tk) := by
  subst hm
  obtain ⟨f, fd, F, hmg, hk, hb⟩ := O.kbn
  exact pe_callN F hr hg hmg hk hb pass0 ha hkw hall hks hdb he hpl
theorem pe_cK0 {m : Nat} (O : OkK X.prog X.w X.K X.mg X.base k x ps sp 0 ks idx) (hr : Room k X.A) (hg : Gl X x) (hkw : PK X kws tk)
    (hall : (backToKw pos (keywordEach kws X.env)).all (·.1.isSome) = true := by rfl) (hks : (backToKw pos (keywordEach kws X.env)).filterMap (·.1) = ks := by rfl)
    (hdb : (x == ("__debug__" : Str)) = false := by decide) (hm : ks.length = m := by rfl) (hpl : ((backTo pos (starEach [] X.env)).any (·.1) || (backToKw pos (keywordEach kws X.env)).any (·.1.isNone)) = false := by rfl) :
    PE X (.Call (.Name x p) [] kws pos) (tCallOK 0 m sp idx tNil tk) := by
  subst hm
  obtain ⟨f, fd, F, hmg, hk, hb⟩ := O.kbn
  refine ⟨fun pins s σ H Q I h => ?_⟩
  refine wpAny_Call_Name_kw (ld_glob I hg hmg ?_ hdb)
  refine PySem.W.callWith_KW0 (h₀ := X.base) I.ok.mod.kin hk hall ?_ hpl
  refine thn (hkw.run pos pins s σ H _ I h) fun ws s2 ⟨zs, H2, I2, rz, l1, l2, q2⟩ => ⟨I2.kIn, ?_⟩
  rw [hks]
  exact run_fnN (us := []) F hr hb pass0 I2 .nil rz l1 l2 q2
end
/-! ### defs that may raise -/
structure OkX (P : Program) (w : World) (K : PySem.W.Frag) (mg : Str → Option Value) (base : Heap) (k : Nat) (x : Str) (ps : List Str) (sp : Sp) : Prop where
  ex : ∃ f fd, FnOk P w K mg base (L2.CX P w) k f fd ps sp ∧ mg x = some (.ref f) ∧ PySem.W.keepIn K (.ref f) = true ∧ Binds K fd ps []
structure OkXK (P : Program) (w : World) (K : PySem.W.Frag) (mg : Str → Option Value) (base : Heap) (k : Nat) (x : Str) (ps : List Str) (sp : Sp) (n : Nat) (ks : List Str) (idx : List Nat) : Prop where
  ex : ∃ f fd, FnOk P w K mg base (L2.CX P w) k f fd ps sp ∧ mg x = some (.ref f) ∧ PySem.W.keepIn K (.ref f) = true ∧
    ∀ us ws : List Value, us.length = n → ws.length = ks.length → bindArgs fd ⟨us, ks.zip ws⟩ = pure (ps.zip (us ++ idx.map fun i => ws.getD i .none))
theorem OkXK.kbn {P : Program} {w : World} {K : PySem.W.Frag} {mg : Str → Option Value} {base : Heap} {k n : Nat} {x : Str} {ps ks : List Str} {sp : Sp} {idx : List Nat} (O : OkXK P w K mg base k x ps sp n ks idx) :
    ∃ f fd, FnOk P w K mg base (L2.CX P w) k f fd ps sp ∧ mg x = some (.ref f) ∧ PySem.W.keepIn K (.ref f) = true ∧ KBn K fd ps n ks (fun us ws => us ++ idx.map fun i => ws.getD i .none) (fun vs zs => vs ++ idx.map fun i => zs.getD i .non) := by
  obtain ⟨f, fd, F, a, b, c⟩ := O.ex
  exact ⟨f, fd, F, a, b, fun s us ws _ h1 h2 => .of_eq (c us ws h1 h2), fun r1 r2 => r1.append (vals_idx r2 idx)⟩
section
variable {X : Cx} {k n : Nat} {x : Str} {ps ks : List Str} {sp : Sp} {idx : List Nat} {e : Expr} {es : List Expr} {kws : List Keyword} {t tk : TA} {p pos : Pos} {W : WX}
/-- called where nothing is raised -/
theorem pe_cX (O : OkX X.prog X.w X.K X.mg X.base k x ps sp) (hr : Room k X.A) (hg : Gl X x) (ha : PA X (e :: es) t)
    (hdb : (x == ("__debug__" : Str)) = false := by decide) (he : starEach (e :: es) X.env = (false, eval e X.env) :: starEach es X.env := by rfl) (hpl : (backTo pos (starEach es X.env)).any (·.1) = false := by rfl) :
    PE X (.Call (.Name x p) (e :: es) [] pos) (tCallO sp t) := by
  obtain ⟨f, fd, F, hm, hk, hb⟩ := O.ex
  refine ⟨fun pins s σ H Q I h => (pe_call (E := E0) F hr hg hm hk hb .nil passL ha hdb he hpl).run pins s σ H Q I ?_⟩
  have e1 : (fun (vs : List V) H1 => sp (vs ++ []) H1 Q E0) = fun vs H1 => sp vs H1 Q E0 := by
    funext vs H1
    rw [List.append_nil]
  show t σ H fun vs H1 => sp (vs ++ []) H1 Q E0
  rw [e1]
  exact h
/-- called in a try's body (or where what is raised goes on): W, the wish -/
theorem pe_cXS (O : OkX X.prog X.w X.K X.mg X.base k x ps sp) (hr : Room k X.A) (hg : Gl X x) (tkk : Takes X W) (ha : PA X (e :: es) t)
    (hdb : (x == ("__debug__" : Str)) = false := by decide) (he : starEach (e :: es) X.env = (false, eval e X.env) :: starEach es X.env := by rfl) (hpl : (backTo pos (starEach es X.env)).any (·.1) = false := by rfl) :
    PE X (.Call (.Name x p) (e :: es) [] pos) (tCallS sp (WE W) t) := by
  obtain ⟨f, fd, F, hm, hk, hb⟩ := O.ex
  exact pe_callS F hr hg hm hk hb (fun σ => passAt tkk σ) ha hdb he hpl
def tCallSK (n m : Nat) (sp : Sp) (idx : List Nat) (E : L2.St → XK) (t tk : TA) : TE := fun σ H Q => t σ H fun vs H1 => tk σ H1 fun zs H2 => vs.length = n ∧ zs.length = m ∧ sp (vs ++ idx.map fun i => zs.getD i .non) H2 Q (E σ)
theorem run_fnSK {pins : List (Addr × Obj)} {σ : L2.St} {H : Hp} {s : Shared} {Q : VK} {us ws : List Value} {vs zs : List V} {f : Addr} {fd : FuncData} {g : List Value → List Value → List Value} {gV : List V → List V → List V} (F : FnOk X.prog X.w X.K X.mg X.base (L2.CX X.prog X.w) k f fd ps sp) (hr : Room k X.A) (hb : KBn X.K fd ps n ks g gV) (tkk : Takes X W)
    (I : Inv X pins σ H s) (r : Vals vs us) (rz : Vals zs ws) (l1 : vs.length = n) (l2 : zs.length = ks.length) (h : sp (gV vs zs) H Q (WE W σ)) : wpAny (model X.prog X.w) X.A (call (.ref f) us (ks.zip ws)) (EP X pins σ Q) X.xe s := by
  have r2 := hb.rel r rz
  refine wpAny_call (codeAny_mono (F.run X.A X.stack s H ⟨us, ks.zip ws⟩ (g us ws) (gV vs zs) Q (WE W σ) hr I.env0 (hb.to s us ws I.kIn (r.length.symm.trans l1) (rz.length.symm.trans l2)) r2 h) fun r s' hq => ?_)
  cases r with
  | error e => exact passAt tkk σ pins H s e s' I hq
  | ok fl =>
    cases fl with
    | ret u => exact I.after hq
    | next => exact False.elim hq
    | brk => exact False.elim hq
    | cont => exact False.elim hq
theorem pe_cXSK0 {m : Nat} (O : OkXK X.prog X.w X.K X.mg X.base k x ps sp 0 ks idx) (hr : Room k X.A) (hg : Gl X x) (tkk : Takes X W) (hkw : PK X kws tk)
    (hall : (backToKw pos (keywordEach kws X.env)).all (·.1.isSome) = true := by rfl) (hks : (backToKw pos (keywordEach kws X.env)).filterMap (·.1) = ks := by rfl)
    (hdb : (x == ("__debug__" : Str)) = false := by decide) (hm : ks.length = m := by rfl) (hpl : ((backTo pos (starEach [] X.env)).any (·.1) || (backToKw pos (keywordEach kws X.env)).any (·.1.isNone)) = false := by rfl) :
    PE X (.Call (.Name x p) [] kws pos) (tCallSK 0 m sp idx (WE W) tNil tk) := by
  subst hm
  obtain ⟨f, fd, F, hmg, hk, hb⟩ := O.kbn
  refine ⟨fun pins s σ H Q I h => ?_⟩
  refine wpAny_Call_Name_kw (ld_glob I hg hmg ?_ hdb)
  refine PySem.W.callWith_KW0 (h₀ := X.base) I.ok.mod.kin hk hall ?_ hpl
  refine thn (hkw.run pos pins s σ H _ I h) fun ws s2 ⟨zs, H2, I2, rz, l1, l2, q2⟩ => ⟨I2.kIn, ?_⟩
  rw [hks]
  exact run_fnSK (us := []) F hr hb tkk I2 .nil rz l1 l2 q2
/-- try: body / except C as n: suite -/
def tTry (K : PySem.W.Frag) (C : Addr) (i : Nat) (tb : WX → TS) (ts : Addr → Value → Option Addr → TS) (Wo : WX) : TS := fun D σ H => tb (wAs K (.ref C) i ts Wo D) D σ H
end
end Bx
namespace Bx
open PySem L2
def isB (x : V) (H : Hp) (Q : Bool → Hp → Prop) : Prop := ∃ k, x = .bl k ∧ Q k H
section
variable {σ σ' : L2.St} {H : Hp} {Q : VK} {QB : Bool → Hp → Prop} {QA : List V → Hp → Prop} {QO : Option Int → Hp → Prop} {v w : V} {ta tb tc te : TE} {t u : TT} {tr : TA} {tl th : TO} {K : PySem.W.Frag} {n b c : L2.St → Hp → Prop} {r : VK} {k : Bool} {i j : Int} {A B : Prop} {p a : Addr} {xs ys : List V} {ts tu : TS}
theorem x_var {i : Nat} (h : σ[i]? = some (some v)) (q : Q v H) : tVar i σ H Q := ⟨v, h, q⟩
theorem x_c (q : Q v H) : tC v σ H Q := q
theorem x_op {f : R2} (q : ta σ H fun x H1 => tb σ H1 fun y H2 => f x y H2 Q) : tOp f ta tb σ H Q := q
theorem x_un {f : V → Hp → VK → Prop} (q : ta σ H fun x H1 => f x H1 Q) : tUn f ta σ H Q := q
theorem x_sub (q : Q (.int (i - j)) H) : rSub (.int i) (.int j) H Q := ⟨i, j, rfl, rfl, q⟩
theorem x_fdvA (h0 : j ≠ 0) {m : Nat} (hb : j.natAbs < 2 ^ m) (hm : m ≤ 9000) (q : Q (.int (i.fdiv j)) H) : rFdv (.int i) (.int j) H Q := ⟨i, j, rfl, rfl, ⟨h0, by
  have z := (Nat.log2_lt (n := j.natAbs) (k := m) (by omega)).mpr hb
  omega⟩, q⟩
theorem x_fdv (h : 0 < j ∧ j < 1073741824) (q : Q (.int (i / j)) H) : rFdv (.int i) (.int j) H Q := x_fdvA (m := 30) (by omega) (by show j.natAbs < 1073741824; omega) (by decide) (by rw [Int.fdiv_eq_ediv_of_nonneg i (by omega)]; exact q)
theorem x_mod (h : 0 < j) (q : Q (.int (i % j)) H) : rModI (.int i) (.int j) H Q := ⟨i, j, rfl, rfl, h, q⟩
theorem x_pow (h : 0 ≤ j ∧ j ≤ 1000000 ∧ i.natAbs < 2 ^ 64) (q : Q (.int (i ^ j.toNat)) H) : rPow (.int i) (.int j) H Q := ⟨i, j, rfl, rfl, h, q⟩
theorem x_lt (q : Q (.bl (decide (i < j))) H) : rLt (.int i) (.int j) H Q := ⟨i, j, rfl, rfl, q⟩
theorem x_le (q : Q (.bl (decide (i ≤ j))) H) : rLe (.int i) (.int j) H Q := ⟨i, j, rfl, rfl, q⟩
theorem x_gt (q : Q (.bl (decide (j < i))) H) : rGt (.int i) (.int j) H Q := ⟨i, j, rfl, rfl, q⟩
theorem x_ge (q : Q (.bl (decide (j ≤ i))) H) : rGe (.int i) (.int j) H Q := ⟨i, j, rfl, rfl, q⟩
theorem x_neg (q : Q (.int (-i)) H) : rNeg (.int i) H Q := ⟨i, rfl, q⟩
theorem x_isN (q : Q (.bl (decide (v = .non))) H) : rIsNon v .non H Q := ⟨rfl, q⟩
theorem x_notN (q : Q (.bl (!decide (v = .non))) H) : rNotNon v .non H Q := ⟨rfl, q⟩
theorem x_abs (q : Q (.int (if i < 0 then -i else i)) H) : rAbs [.int i] H Q := ⟨i, rfl, q⟩
theorem x_int1 (q : Q (.int i) H) : rIntO [.int i] H Q := .inl ⟨i, rfl, q⟩
theorem x_max2 (q : Q (.int (if j > i then j else i)) H) : rMx2 [.int i, .int j] H Q := ⟨i, j, rfl, q⟩
theorem x_min2 (q : Q (.int (if j < i then j else i)) H) : rMn2 [.int i, .int j] H Q := ⟨i, j, rfl, q⟩
theorem x_tupL (h : SqL K H p xs) (q : ∀ l, H l = none → Q (.ref l) (upd H l (.tup xs))) : rTupOf K [.ref p] H Q := ⟨p, xs, rfl, .inl ⟨h, q⟩⟩
theorem x_tupT (h : SqT K H p xs) (q : Q (.ref p) H) : rTupOf K [.ref p] H Q := ⟨p, xs, rfl, .inr ⟨h, q⟩⟩
theorem x_addI (q : Q (.int (i + j)) H) : rAddX K (.int i) (.int j) H Q := .inl ⟨i, j, rfl, rfl, q⟩
theorem x_mulI (h : CMul i j) (q : Q (.int (i * j)) H) : rMulX K (.int i) (.int j) H Q := .inl ⟨i, j, rfl, rfl, h.ok, q⟩
theorem x_addL {b : Addr} (h1 : H p = some (.lst xs)) (h2 : H b = some (.lst ys)) (h : xs.length + ys.length ≤ sizeLine) (q : ∀ a, H a = none → Q (.ref a) (upd H a (.lst (xs ++ ys)))) : rAddX K (.ref p) (.ref b) H Q := .inr (.inl ⟨p, b, xs, ys, rfl, rfl, h1, h2, h, q⟩)
theorem x_addT {b : Addr} (h1 : H p = some (.tup xs)) (h2 : H b = some (.tup ys)) (h : xs.length + ys.length ≤ sizeLine) (q0 : xs = [] → Q (.ref b) H) (q1 : xs ≠ [] → ys = [] → Q (.ref p) H) (q : ∀ a, H a = none → Q (.ref a) (upd H a (.tup (xs ++ ys)))) : rAddX K (.ref p) (.ref b) H Q :=
  .inr (.inr ⟨p, b, xs, ys, rfl, rfl, SqT.of h1, SqT.of h2, h, q0, q1, fun _ _ => q⟩)
theorem x_repT (h1 : H p = some (.tup xs)) (h0 : xs ≠ []) (h2 : 2 ≤ j) (h3 : j ≤ 1000) (h4 : xs.length ≤ 1000) (q : ∀ a, H a = none → Q (.ref a) (upd H a (.tup (List.replicate j.toNat xs).flatten))) : rMulX K (.ref p) (.int j) H Q :=
  .inr ⟨p, j, xs, rfl, rfl, SqT.of h1, h0, h2, h3, h4, q⟩
theorem x_eqI (q : Q (.bl (decide (i = j))) H) : rEqX K (.int i) (.int j) H Q := .inl ⟨rfl, by
  have e : decide (V.int i = V.int j) = decide (i = j) := by by_cases z : i = j <;> simp [z]
  rw [e]; exact q⟩
theorem x_neI (q : Q (.bl (!decide (i = j))) H) : rNeX K (.int i) (.int j) H Q := .inl ⟨rfl, by
  have e : decide (V.int i = V.int j) = decide (i = j) := by by_cases z : i = j <;> simp [z]
  rw [e]; exact q⟩
theorem x_eqV (h : scal v w = true) (q : Q (.bl (decide (v = w))) H) : rEqX K v w H Q := .inl ⟨h, q⟩
theorem x_ixL (h : H p = some (.lst xs)) (e : atI xs i = some v) (q : Q v H) : rIxX K (.ref p) (.int i) H Q := .inl ⟨p, xs, i, v, rfl, rfl, SqL.of h, e, q⟩
theorem x_ixT (h : H p = some (.tup xs)) (e : atI xs i = some v) (q : Q v H) : rIxX K (.ref p) (.int i) H Q := .inr ⟨p, xs, i, v, rfl, rfl, SqT.of h, e, q⟩
theorem x_sl {f : V → Option Int → Option Int → Hp → VK → Prop} (q : te σ H fun x H1 => tl σ H1 fun l H2 => th σ H2 fun u H3 => f x l u H3 Q) : tSl f te tl th σ H Q := q
theorem x_no (q : QO none H) : tNoPart σ H QO := q
theorem x_part (q : te σ H fun x H1 => ∃ i, x = .int i ∧ QO (some i) H1) : tPart te σ H QO := q
theorem x_slL {lo hi : Option Int} (h : SqL K H p xs) (q : ∀ a, H a = none → Q (.ref a) (upd H a (.lst (cutV xs lo hi)))) : rSlX K (.ref p) lo hi H Q := .inl ⟨p, xs, rfl, h, q⟩
theorem x_slT {lo hi : Option Int} (h : H p = some (.tup xs)) (q1 : HT.sIx xs.length 0 lo = 0 ∧ HT.sIx xs.length xs.length hi = xs.length → Q (.ref p) H) (q : ¬ (HT.sIx xs.length 0 lo = 0 ∧ HT.sIx xs.length xs.length hi = xs.length) → ∀ a, H a = none → Q (.ref a) (upd H a (.tup (cutV xs lo hi)))) : rSlX K (.ref p) lo hi H Q := .inr ⟨p, xs, rfl, SqT.of h, q1, q⟩
theorem x_test (q : te σ H fun x H1 => isB x H1 QB) : tTest te σ H QB := q
theorem x_tB (q : te σ H fun x H1 => isB x H1 QB) : tB te σ H QB := q
theorem x_isB (q : QB k H) : isB (.bl k) H QB := ⟨k, rfl, q⟩
theorem x_and (q : t σ H fun c H1 => if c = true then u σ H1 QB else QB false H1) : tAnd t u σ H QB := q
theorem x_or (q : t σ H fun c H1 => if c = true then QB true H1 else u σ H1 QB) : tOr t u σ H QB := q
theorem x_not (q : t σ H fun c H1 => QB (!c) H1) : tNot t σ H QB := q
theorem x_andV (q : ta σ H fun x H1 => isB x H1 fun c H2 => if c = true then tb σ H2 Q else Q (.bl false) H2) : tAndV ta tb σ H Q := q
theorem x_orV (q : ta σ H fun x H1 => isB x H1 fun c H2 => if c = true then Q (.bl true) H2 else tb σ H2 Q) : tOrV ta tb σ H Q := q
theorem x_notV (q : ta σ H fun x H1 => isB x H1 fun c H2 => Q (.bl (!c)) H2) : tNotV ta σ H Q := q
theorem x_chain {f g : R2} (q : ta σ H fun x H1 => tb σ H1 fun y H2 => f x y H2 fun z H3 => isB z H3 fun k H4 => if k = true then tc σ H4 fun w H5 => g y w H5 Q else Q (.bl false) H4) : tChain f g ta tb tc σ H Q := q
theorem x_ifE (q : t σ H fun c H1 => if c = true then ta σ H1 Q else tb σ H1 Q) : tIf t ta tb σ H Q := q
theorem x_iteT (h : A) : if true = true then A else B := by rw [if_pos rfl]; exact h
theorem x_iteF (h : B) : if false = true then A else B := by rw [if_neg Bool.false_ne_true]; exact h
theorem x_iteNT (h : B) : if (!true) = true then A else B := x_iteF h
theorem x_iteNF (h : A) : if (!false) = true then A else B := x_iteT h
theorem x_ite (h1 : k = true → A) (h2 : k = false → B) : if k = true then A else B := by
  cases k with
  | true => exact x_iteT (h1 rfl)
  | false => exact x_iteF (h2 rfl)
theorem x_dec {C : Prop} [Decidable C] (h1 : C → A) (h2 : ¬ C → B) : if decide C = true then A else B :=
  x_ite (fun e => h1 (of_decide_eq_true e)) (fun e => h2 (of_decide_eq_false e))
theorem x_ndec {C : Prop} [Decidable C] (h1 : ¬ C → A) (h2 : C → B) : if (!decide C) = true then A else B := by
  by_cases e : C
  · rw [decide_eq_true e]; exact x_iteNT (h2 e)
  · rw [decide_eq_false e]; exact x_iteNF (h1 e)
theorem x_nil (q : QA [] H) : tNil σ H QA := q
theorem x_cons (q : te σ H fun x H1 => tr σ H1 fun xs H2 => QA (x :: xs) H2) : tCons te tr σ H QA := q
def mkT (xs : List V) (H : Hp) (Q : VK) : Prop := xs.length ≤ sizeLine ∧ ∀ p, H p = none → Q (.ref p) (upd H p (.tup xs))
def mkL (xs : List V) (H : Hp) (Q : VK) : Prop := xs.length ≤ sizeLine ∧ ∀ p, H p = none → Q (.ref p) (upd H p (.lst xs))
theorem x_tup (q : tr σ H fun xs H1 => mkT xs H1 Q) : tTup tr σ H Q := q
theorem x_lst (q : tr σ H fun xs H1 => mkL xs H1 Q) : tLst tr σ H Q := q
theorem x_cb {f : List V → Hp → VK → Prop} (q : tr σ H fun vs H1 => f vs H1 Q) : tCB f tr σ H Q := q
theorem x_call {sp : Sp} (q : tr σ H fun vs H1 => sp vs H1 Q E0) : tCallO sp tr σ H Q := q
theorem x_callK {sp : Sp} {m n : Nat} {idx : List Nat} {tk : TA} (q : tr σ H fun vs H1 => tk σ H1 fun zs H2 => vs.length = n ∧ zs.length = m ∧ sp (vs ++ idx.map fun i => zs.getD i .non) H2 Q E0) : tCallOK n m sp idx tr tk σ H Q := q
theorem x_callS {sp : Sp} {E : L2.St → XK} (q : tr σ H fun vs H1 => sp vs H1 Q (E σ)) : tCallS sp E tr σ H Q := q
theorem x_callSK {sp : Sp} {m n : Nat} {idx : List Nat} {tk : TA} {E : L2.St → XK} (q : tr σ H fun vs H1 => tk σ H1 fun zs H2 => vs.length = n ∧ zs.length = m ∧ sp (vs ++ idx.map fun i => zs.getD i .non) H2 Q (E σ)) : tCallSK n m sp idx E tr tk σ H Q := q
theorem x_bm {T : String} {f : V → List V → Hp → VK → Prop} (q : te σ H fun x H1 => tyV K T x H1 ∧ tr σ H1 fun xs H2 => f x xs H2 Q) : tBM K T f te tr σ H Q := q
/-! statements -/
theorem x_seq (q : ts ⟨tu ⟨n, r, b, c⟩, r, b, c⟩ σ H) : tSeq ts tu ⟨n, r, b, c⟩ σ H := q
theorem x_cut (Mid : L2.St → Hp → Prop) (h : ts ⟨Mid, r, b, c⟩ σ H) (k : ∀ σ' H', Mid σ' H' → tu ⟨n, r, b, c⟩ σ' H') : tCut ts tu ⟨n, r, b, c⟩ σ H := ⟨Mid, h, k⟩
theorem x_next (q : n σ H) : tNext ⟨n, r, b, c⟩ σ H := q
theorem x_brk (q : b σ H) : tBreak ⟨n, r, b, c⟩ σ H := q
theorem x_cont (q : c σ H) : tCont ⟨n, r, b, c⟩ σ H := q
theorem x_drop (q : te σ H fun _ H1 => n σ H1) : tDrop te ⟨n, r, b, c⟩ σ H := q
theorem x_ret (q : te σ H r) : tRet te ⟨n, r, b, c⟩ σ H := q
theorem x_ifS (q : t σ H fun k H1 => if k = true then ts ⟨n, r, b, c⟩ σ H1 else tu ⟨n, r, b, c⟩ σ H1) : tIfS t ts tu ⟨n, r, b, c⟩ σ H := q
theorem x_asg {g : TG} (q : te σ H fun x H1 => g x σ H1 n) : tAsg te g ⟨n, r, b, c⟩ σ H := q
theorem x_gName {i : Nat} (q : n (σ.set i (some v)) H) : gName i v σ H n := q
theorem x_gSub {s : TSet} (q : ta σ H fun o H1 => tb σ H1 fun i H2 => s o i v H2 fun H3 => n σ H3) : gSub ta tb s v σ H n := q
theorem x_setL {m : Nat} {Qh : Hp → Prop} (h : H p = some (.lst xs)) (e : ixN xs.length i = some m) (q : Qh (upd H p (.lst (xs.set m v)))) : rSetL (.ref p) (.int i) v H Qh := ⟨p, xs, i, m, rfl, rfl, h, e, q⟩
theorem x_app (h : H p = some (.lst xs)) (hl : xs.length < sizeLine) (q : Q .non (upd H p (.lst (xs ++ [v])))) : rAppend (.ref p) [v] H Q := ⟨p, xs, v, rfl, rfl, h, hl, q⟩
theorem x_len {f : V → Hp → VK → Prop} : True := trivial
theorem x_gX {m : Nat} {g : TGs} (h : H p = some (.tup xs) ∨ H p = some (.lst xs)) (e : xs.length = m) (q : g xs σ H n) : gX K m g (.ref p) σ H n := h.elim (fun h => .inl ⟨p, xs, rfl, SqT.of h, e, q⟩) fun h => .inr ⟨p, xs, rfl, SqL.of h, e, q⟩
theorem x_gCons {g : TG} {gs : TGs} (q : g v σ H fun σ' H' => gs xs σ' H' n) : gCons g gs (v :: xs) σ H n := ⟨v, xs, rfl, q⟩
theorem x_gNil (q : n σ H) : gNil [] σ H n := ⟨rfl, q⟩
/-! loops -/
def rawR (m : Nat) (g : TG) (ts : TS) (D : Ends) (σ : L2.St) (H : Hp) : Prop := ∃ W : Nat → Nat → L2.St → Hp → Prop, (∃ m, W 0 m σ H) ∧ ∀ i k σ H, W i k σ H →
  ((Itr 0 m).stop i H ∧ D.nx σ H) ∨ ((Itr 0 m).go i H ∧ ∃ N : L2.St → Hp → Prop, (∀ σ' H', N σ' H' → ∃ m', m' < k ∧ W (i + 1) m' σ' H') ∧ ∀ x H', (Itr 0 m).yld i H x H' → g x σ H' fun σ2 H2 => ts { D with nx := N, ct := N, bk := D.nx } σ2 H2)
def rngK (vs : List V) (P : Nat → Prop) : Prop := ∃ j : Int, vs = [.int j] ∧ -(2 ^ 62) ≤ j ∧ j < 2 ^ 62 ∧ P j.toNat
theorem x_rng {z : Int} {P : Nat → Prop} (m : Nat) (hm : m ≤ 1000000000) (hz : z = (m : Int)) (q : P m) : rngK [.int z] P := by
  subst hz
  exact ⟨(m : Int), rfl, by omega, by omega, by rw [Int.toNat_natCast]; exact q⟩
theorem x_forR {g : TG} (q : tr σ H fun vs H1 => rngK vs fun m => rawR m g ts ⟨n, r, b, c⟩ σ H1) : tFor (iRng1 tr) g ts ⟨n, r, b, c⟩ σ H := q
theorem x_loopR {g : TG} {m : Nat} (Pv : Nat → L2.St → Hp → Prop) (h0 : Pv 0 σ H) (hs : ∀ i σ H, i < m → Pv i σ H → g (.int (i : Int)) σ H fun σ2 H2 => ts ⟨Pv (i + 1), r, n, Pv (i + 1)⟩ σ2 H2) (hd : ∀ σ H, Pv m σ H → n σ H) : rawR m g ts ⟨n, r, b, c⟩ σ H := by
  refine for_range (lo := 0) (n := m) (D := ⟨n, r, b, c⟩) Pv h0 (fun i σ H hi hp => ?_) hd
  rw [Int.zero_add]
  exact hs i σ H hi hp
def rawJ (J : It) (g : TG) (ts : TS) (D : Ends) (σ : L2.St) (H : Hp) : Prop := ∃ W : Nat → Nat → L2.St → Hp → Prop, (∃ m, W 0 m σ H) ∧ ∀ i k σ H, W i k σ H →
  (J.stop i H ∧ D.nx σ H) ∨ (J.go i H ∧ ∃ N : L2.St → Hp → Prop, (∀ σ' H', N σ' H' → ∃ m', m' < k ∧ W (i + 1) m' σ' H') ∧ ∀ x H', J.yld i H x H' → g x σ H' fun σ2 H2 => ts { D with nx := N, ct := N, bk := D.nx } σ2 H2)
theorem x_forX {g : TG} (q : te σ H fun x H1 => ∃ a, x = .ref a ∧ (((∃ xs, SqL K H1 a xs) ∧ rawJ (Itl K a) g ts ⟨n, r, b, c⟩ σ H1) ∨ ((∃ xs, SqT K H1 a xs) ∧ rawJ (Itt K a) g ts ⟨n, r, b, c⟩ σ H1))) : tFor (iX K te) g ts ⟨n, r, b, c⟩ σ H := q
theorem x_loopL {g : TG} (h : SqL K H a xs) (Pv : Nat → L2.St → Hp → Prop) (h0 : Pv 0 σ H) (hl : ∀ i σ H, i ≤ xs.length → Pv i σ H → SqL K H a xs) (hs : ∀ i x σ H, xs[i]? = some x → Pv i σ H → g x σ H fun σ2 H2 => ts ⟨Pv (i + 1), r, n, Pv (i + 1)⟩ σ2 H2) (hd : ∀ σ H, Pv xs.length σ H → n σ H) :
    ∃ a', V.ref a = .ref a' ∧ (((∃ xs, SqL K H a' xs) ∧ rawJ (Itl K a') g ts ⟨n, r, b, c⟩ σ H) ∨ ((∃ xs, SqT K H a' xs) ∧ rawJ (Itt K a') g ts ⟨n, r, b, c⟩ σ H)) :=
  ⟨a, rfl, .inl ⟨⟨xs, h⟩, for_list (D := ⟨n, r, b, c⟩) Pv h0 hl hs hd⟩⟩
theorem x_loopT {g : TG} (h : SqT K H a xs) (Pv : Nat → L2.St → Hp → Prop) (h0 : Pv 0 σ H) (hl : ∀ i σ H, i ≤ xs.length → Pv i σ H → SqT K H a xs) (hs : ∀ i x σ H, xs[i]? = some x → Pv i σ H → g x σ H fun σ2 H2 => ts ⟨Pv (i + 1), r, n, Pv (i + 1)⟩ σ2 H2) (hd : ∀ σ H, Pv xs.length σ H → n σ H) :
    ∃ a', V.ref a = .ref a' ∧ (((∃ xs, SqL K H a' xs) ∧ rawJ (Itl K a') g ts ⟨n, r, b, c⟩ σ H) ∨ ((∃ xs, SqT K H a' xs) ∧ rawJ (Itt K a') g ts ⟨n, r, b, c⟩ σ H)) :=
  ⟨a, rfl, .inr ⟨⟨xs, h⟩, for_tup (D := ⟨n, r, b, c⟩) Pv h0 hl hs hd⟩⟩
/-! comprehensions -/
def rawC (J : It) (g : TG) (tt : TT) (te : TE) (vs : List Nat) (σ : L2.St) (H1 : Hp) (Q : VK) : Prop := ∀ D, H1 D = none → ∃ W : Nat → Nat → Hp → Prop, (∃ m, W 0 m (upd H1 D (.lst []))) ∧ ∀ i m H, W i m H →
  (J.stop i H ∧ Q (.ref D) H) ∨ (J.go i H ∧ ∃ Nx : Hp → Prop, (∀ H', Nx H' → ∃ m', m' < m ∧ W (i + 1) m' H') ∧ ∀ x H', J.yld i H x H' → g x (wipe σ vs) H' fun σ2 H2 => wipe σ2 vs = wipe σ vs ∧ tt σ2 H2 fun b H3 =>
    if b = true then te σ2 H3 fun y H4 => ∃ acc, H4 D = some (.lst acc) ∧ acc.length < sizeLine ∧ Nx (upd H4 D (.lst (acc ++ [y]))) else Nx H3)
theorem x_lcX {g : TG} {tt : TT} {tx : TE} {vs : List Nat} (q : te σ H fun x H1 => ∃ a, x = .ref a ∧ (((∃ xs, SqL K H1 a xs) ∧ rawC (Itl K a) g tt tx vs σ H1 Q) ∨ ((∃ xs, SqT K H1 a xs) ∧ rawC (Itt K a) g tt tx vs σ H1 Q))) : tLc (iX K te) g tt tx vs σ H Q := q
theorem x_lcR {g : TG} {tt : TT} {tx : TE} {vs : List Nat} (q : tr σ H fun us H1 => rngK us fun m => rawC (Itr 0 m) g tt tx vs σ H1 Q) : tLc (iRng1 tr) g tt tx vs σ H Q := q
theorem x_lcL {g : TG} {tt : TT} {tx : TE} {vs : List Nat} (h : SqL K H a xs) (Pv : Addr → Nat → Hp → Prop) (h0 : ∀ D, H D = none → Pv D 0 (upd H D (.lst []))) (hl : ∀ D i H, i ≤ xs.length → Pv D i H → SqL K H a xs)
    (hs : ∀ D i x H, xs[i]? = some x → Pv D i H → g x (wipe σ vs) H fun σ2 H2 => wipe σ2 vs = wipe σ vs ∧ tt σ2 H2 fun b H3 =>
      if b = true then tx σ2 H3 fun y H4 => ∃ acc, H4 D = some (.lst acc) ∧ acc.length < sizeLine ∧ Pv D (i + 1) (upd H4 D (.lst (acc ++ [y]))) else Pv D (i + 1) H3) (hd : ∀ D H, Pv D xs.length H → Q (.ref D) H) :
    ∃ a', V.ref a = .ref a' ∧ (((∃ xs, SqL K H a' xs) ∧ rawC (Itl K a') g tt tx vs σ H Q) ∨ ((∃ xs, SqT K H a' xs) ∧ rawC (Itt K a') g tt tx vs σ H Q)) :=
  ⟨a, rfl, .inl ⟨⟨xs, h⟩, fun D hD => lc_list (Pv D) (h0 D hD) (hl D) (hs D) (hd D)⟩⟩
theorem x_lcT {g : TG} {tt : TT} {tx : TE} {vs : List Nat} (h : SqT K H a xs) (Pv : Addr → Nat → Hp → Prop) (h0 : ∀ D, H D = none → Pv D 0 (upd H D (.lst []))) (hl : ∀ D i H, i ≤ xs.length → Pv D i H → SqT K H a xs)
    (hs : ∀ D i x H, xs[i]? = some x → Pv D i H → g x (wipe σ vs) H fun σ2 H2 => wipe σ2 vs = wipe σ vs ∧ tt σ2 H2 fun b H3 =>
      if b = true then tx σ2 H3 fun y H4 => ∃ acc, H4 D = some (.lst acc) ∧ acc.length < sizeLine ∧ Pv D (i + 1) (upd H4 D (.lst (acc ++ [y]))) else Pv D (i + 1) H3) (hd : ∀ D H, Pv D xs.length H → Q (.ref D) H) :
    ∃ a', V.ref a = .ref a' ∧ (((∃ xs, SqL K H a' xs) ∧ rawC (Itl K a') g tt tx vs σ H Q) ∨ ((∃ xs, SqT K H a' xs) ∧ rawC (Itt K a') g tt tx vs σ H Q)) :=
  ⟨a, rfl, .inr ⟨⟨xs, h⟩, fun D hD => lc_tup (Pv D) (h0 D hD) (hl D) (hs D) (hd D)⟩⟩
theorem x_lcN {g : TG} {tt : TT} {tx : TE} {vs : List Nat} {m : Nat} (Pv : Addr → Nat → Hp → Prop) (h0 : ∀ D, H D = none → Pv D 0 (upd H D (.lst [])))
    (hs : ∀ D i H, i < m → Pv D i H → g (.int (i : Int)) (wipe σ vs) H fun σ2 H2 => wipe σ2 vs = wipe σ vs ∧ tt σ2 H2 fun b H3 =>
      if b = true then tx σ2 H3 fun y H4 => ∃ acc, H4 D = some (.lst acc) ∧ acc.length < sizeLine ∧ Pv D (i + 1) (upd H4 D (.lst (acc ++ [y]))) else Pv D (i + 1) H3) (hd : ∀ D H, Pv D m H → Q (.ref D) H) : rawC (Itr 0 m) g tt tx vs σ H Q := fun D hD =>
  lc_range (Pv D) (h0 D hD) (fun i H hi hp => by
    rw [Int.zero_add]
    exact hs D i H hi hp) (hd D)
theorem x_tYes (q : QB true H) : tYes σ H QB := q
end
end Bx
namespace Bx
open PySem L2
/-! ### heaps: all but ex stays -/
def Kp (ex : List Addr) (H H' : Hp) : Prop := ∀ a o, a ∉ ex → H a = some o → H' a = some o
def Live (ex : List Addr) (H : Hp) : Prop := ∀ a, a ∈ ex → ∃ o, H a = some o
section
variable {ex ex' : List Addr} {sp p a row : Addr} {H H1 H2 H' : Hp} {o u : HO} {K : PySem.W.Frag} {xs : List V} {v : V}
theorem upd_get (h : H p = none) (e : H a = some o) : upd H p u a = some o := by
  rw [upd_ne (ne_of_none e h)]; exact e
theorem upd_get' (h : a ≠ p) (e : H a = some o) : upd H p u a = some o := by
  rw [upd_ne h]; exact e
theorem new_ne (h : H p = none) (e : H a = some o) : p ≠ a := fun z => by rw [z, e] at h; cases h
theorem Live.new (L : Live ex H) (h : H p = none) : p ∉ ex := fun z => by
  obtain ⟨o, e⟩ := L p z
  rw [h] at e; cases e
theorem Live.same (L : Live ex H) (s : Same H H1) : Live ex H1 := fun a h => by
  obtain ⟨o, e⟩ := L a h
  exact ⟨o, s _ _ e⟩
theorem Live.cons (L : Live ex H) (h : H p = some o) : Live (p :: ex) H := fun a z => by
  rcases List.mem_cons.mp z with rfl | z
  · exact ⟨o, h⟩
  · exact L a z
theorem Live.upd (L : Live ex H) : Live ex (upd H p o) := fun a h => by
  by_cases z : a = p
  · subst z; exact ⟨o, upd_same⟩
  · obtain ⟨u, e⟩ := L a h
    exact ⟨u, upd_get' z e⟩
theorem Live.nil : Live [] H := fun a h => nomatch h
theorem Live.one (h : H p = some o) : Live [p] H := Live.nil.cons h
theorem Kp.refl : Kp ex H H := fun _ _ _ h => h
theorem Kp.trans (x : Kp ex H H1) (y : Kp ex H1 H2) : Kp ex H H2 := fun a o n h => y a o n (x a o n h)
theorem Kp.new (x : Kp ex H H1) (h : H1 p = none) : Kp ex H (upd H1 p o) := fun a u n e => by
  rw [upd_ne (ne_of_none (x a u n e) h)]; exact x a u n e
theorem Kp.mut (x : Kp ex H H1) (h : p ∈ ex) : Kp ex H (upd H1 p o) := fun a u n e => by
  rw [upd_ne (fun z => n (by rw [z]; exact h))]; exact x a u n e
theorem Kp.mono (x : Kp ex H H1) (h : ∀ a, a ∈ ex → a ∈ ex') : Kp ex' H H1 := fun a u n e => x a u (fun z => n (h a z)) e
theorem Kp.more (x : Kp ex H H1) : Kp (p :: ex) H H1 := x.mono fun _ h => List.mem_cons_of_mem _ h
theorem Kp.same (x : Kp ex H H1) (y : Same H1 H2) : Kp ex H H2 := fun a o n h => y a o (x a o n h)
theorem Same.kp (y : Same H H1) : Kp ex H H1 := fun a o _ h => y a o h
theorem Same.new (x : Same H H1) (h : H1 p = none) : Same H (upd H1 p o) := fun a u e => by
  rw [upd_ne (ne_of_none (x a u e) h)]; exact x a u e
/-- an object that H does not know may change -/
theorem Kp.own (x : Kp ex H H1) (h : H p = none) : Kp ex H (upd H1 p o) := fun a u n e => by
  rw [upd_ne (ne_of_none e h)]; exact x a u n e
theorem Same.own (x : Same H H1) (h : H p = none) : Same H (upd H1 p o) := fun a u e => by
  rw [upd_ne (ne_of_none e h)]; exact x a u e
theorem Same.none (x : Same H H1) (h : H1 p = Option.none) : H p = Option.none := by
  cases q : H p with
  | none => rfl
  | some o => rw [x p o q] at h; cases h
theorem Kp.none (x : Kp ex H H1) (n : p ∉ ex) (h : H1 p = Option.none) : H p = Option.none := by
  cases q : H p with
  | none => rfl
  | some o => rw [x p o n q] at h; cases h
/-! ### the draws -/
structure Wd (H : Hp) (row sp : Addr) : Prop where
  ex : ∃ (s : Int) (rs : List Int), 0 ≤ s ∧ H sp = some (.lst [.int s]) ∧ H row = some (.lst (rs.map V.int)) ∧ rs ≠ [] ∧ rs.length ≤ 4000
  ne : row ≠ sp
theorem Wd.new (W : Wd H row sp) (h : H p = none) : Wd (upd H p o) row sp := by
  obtain ⟨⟨s, rs, a, b, c, d⟩, e⟩ := W
  exact ⟨⟨s, rs, a, upd_get h b, upd_get h c, d⟩, e⟩
theorem Wd.same (W : Wd H row sp) (h : Same H H1) : Wd H1 row sp := by
  obtain ⟨⟨s, rs, a, b, c, d⟩, e⟩ := W
  exact ⟨⟨s, rs, a, h _ _ b, h _ _ c, d⟩, e⟩
theorem Wd.live (W : Wd H row sp) : Live [sp] H := by
  obtain ⟨⟨s, rs, a, b, c, d⟩, e⟩ := W
  exact Live.one b
theorem Wd.sp_ne (W : Wd H row sp) (h : H p = none) : p ≠ sp := by
  obtain ⟨⟨s, rs, a, b, c, d⟩, e⟩ := W
  exact new_ne h b
/-- an own object that is neither -/
theorem Wd.own (W : Wd H row sp) (h : p ≠ sp) (h2 : p ≠ row) : Wd (upd H p o) row sp := by
  obtain ⟨⟨s, rs, a, b, c, d⟩, e⟩ := W
  exact ⟨⟨s, rs, a, upd_get' (Ne.symm h) b, upd_get' (Ne.symm h2) c, d⟩, e⟩
theorem Wd.row_ne (W : Wd H row sp) (h : H p = none) : p ≠ row := by
  obtain ⟨⟨s, rs, a, b, c, d⟩, e⟩ := W
  exact new_ne h c
theorem not1 (h : p ≠ sp) : p ∉ [sp] := fun z => h (List.mem_singleton.mp z)
end
/-! ### data -/
inductive Da where
  | non | bl (b : Bool) | int (i : Int) | str (s : Str) | tup (l : List Da) | lst (l : List Da)
inductive Rp (ex : List Addr) (H : Hp) : V → Da → Prop where
  | non : Rp ex H .non .non
  | bl (b : Bool) : Rp ex H (.bl b) (.bl b)
  | int (i : Int) : Rp ex H (.int i) (.int i)
  | str (s : Str) : Rp ex H (.str s) (.str s)
  | tup {a : Addr} {xs : List V} {ds : List Da} (n : a ∉ ex) (e : H a = some (.tup xs)) (l : xs.length = ds.length) (h : ∀ (i : Nat) (x : V) (d : Da), xs[i]? = some x → ds[i]? = some d → Rp ex H x d) : Rp ex H (.ref a) (.tup ds)
  | lst {a : Addr} {xs : List V} {ds : List Da} (n : a ∉ ex) (e : H a = some (.lst xs)) (l : xs.length = ds.length) (h : ∀ (i : Nat) (x : V) (d : Da), xs[i]? = some x → ds[i]? = some d → Rp ex H x d) : Rp ex H (.ref a) (.lst ds)
section
variable {ex ex' : List Addr} {sp p a row : Addr} {H H1 H2 H' : Hp} {o u : HO} {K : PySem.W.Frag} {xs : List V} {v : V} {d : Da} {ds : List Da}
theorem Rp.kp (h : Rp ex H v d) (k : Kp ex H H1) : Rp ex H1 v d := by
  induction h with
  | non => exact .non
  | bl b => exact .bl b
  | int i => exact .int i
  | str s => exact .str s
  | tup n e l _ ih => exact .tup n (k _ _ n e) l ih
  | lst n e l _ ih => exact .lst n (k _ _ n e) l ih
theorem Rp.same (h : Rp ex H v d) (k : Same H H1) : Rp ex H1 v d := h.kp (Same.kp k)
theorem Rp.less (h : Rp ex H v d) (k : ∀ a, a ∈ ex' → a ∈ ex) : Rp ex' H v d := by
  induction h with
  | non => exact .non
  | bl b => exact .bl b
  | int i => exact .int i
  | str s => exact .str s
  | tup n e l _ ih => exact .tup (fun z => n (k _ z)) e l ih
  | lst n e l _ ih => exact .lst (fun z => n (k _ z)) e l ih
theorem Rp.tail (h : Rp (p :: ex) H v d) : Rp ex H v d := h.less fun _ z => List.mem_cons_of_mem _ z
/-- what H holds is not at p, which it does not know -/
theorem Rp.grow (h : Rp ex H v d) (k : H p = none) : Rp (p :: ex) H v d := by
  induction h with
  | non => exact .non
  | bl b => exact .bl b
  | int i => exact .int i
  | str s => exact .str s
  | tup n e l _ ih => exact .tup (fun z => (List.mem_cons.mp z).elim (fun z => new_ne k e z.symm) n) e l ih
  | lst n e l _ ih => exact .lst (fun z => (List.mem_cons.mp z).elim (fun z => new_ne k e z.symm) n) e l ih
/-- many values -/
def Rps (ex : List Addr) (H : Hp) (xs : List V) (ds : List Da) : Prop := xs.length = ds.length ∧ ∀ (i : Nat) (x : V) (d : Da), xs[i]? = some x → ds[i]? = some d → Rp ex H x d
theorem Rps.nil : Rps ex H [] [] := ⟨rfl, fun i x d h => by simp at h⟩
theorem Rps.cons (h : Rp ex H v d) (t : Rps ex H xs ds) : Rps ex H (v :: xs) (d :: ds) := ⟨by simp [t.1], fun i x e h1 h2 => by
  cases i with
  | zero => cases h1; cases h2; exact h
  | succ i => exact t.2 i x e h1 h2⟩
theorem rps_kp (h : Rps ex H xs ds) (k : Kp ex H H1) : Rps ex H1 xs ds := ⟨h.1, fun i x d a b => (h.2 i x d a b).kp k⟩
theorem rps_same (h : Rps ex H xs ds) (k : Same H H1) : Rps ex H1 xs ds := rps_kp h (Same.kp k)
theorem rps_tail (h : Rps (p :: ex) H xs ds) : Rps ex H xs ds := ⟨h.1, fun i x d a b => (h.2 i x d a b).tail⟩
theorem rps_less (h : Rps ex H xs ds) (k : ∀ a, a ∈ ex' → a ∈ ex) : Rps ex' H xs ds := ⟨h.1, fun i x d a b => (h.2 i x d a b).less k⟩
theorem rps_grow (h : Rps ex H xs ds) (k : H p = none) : Rps (p :: ex) H xs ds := ⟨h.1, fun i x d a b => (h.2 i x d a b).grow k⟩
theorem rps_append {ys : List V} {es : List Da} (t : Rps ex H xs ds) (s : Rps ex H ys es) : Rps ex H (xs ++ ys) (ds ++ es) := ⟨by simp [t.1, s.1], fun i x e h1 h2 => by
  by_cases q : i < xs.length
  · rw [List.getElem?_append_left q] at h1
    rw [List.getElem?_append_left (by rw [← t.1]; exact q)] at h2
    exact t.2 i x e h1 h2
  · have q' : xs.length ≤ i := by omega
    rw [List.getElem?_append_right q'] at h1
    rw [List.getElem?_append_right (by rw [← t.1]; exact q')] at h2
    rw [t.1] at h1
    exact s.2 _ x e h1 h2⟩
theorem rps_snoc (t : Rps ex H xs ds) (h : Rp ex H v d) : Rps ex H (xs ++ [v]) (ds ++ [d]) := rps_append t (.cons h .nil)
theorem rps_get (t : Rps ex H xs ds) {i : Nat} (h : ds[i]? = some d) : ∃ x, xs[i]? = some x ∧ Rp ex H x d := by
  have hi : i < xs.length := by rw [t.1]; exact (List.getElem?_eq_some_iff.mp h).1
  exact ⟨xs[i], List.getElem?_eq_getElem hi, t.2 i _ d (List.getElem?_eq_getElem hi) h⟩
theorem rps_at (t : Rps ex H xs ds) {i : Nat} {x : V} (h : xs[i]? = some x) : ∃ d, ds[i]? = some d ∧ Rp ex H x d := by
  have hi : i < ds.length := by rw [← t.1]; exact (List.getElem?_eq_some_iff.mp h).1
  exact ⟨ds[i], List.getElem?_eq_getElem hi, t.2 i _ _ h (List.getElem?_eq_getElem hi)⟩
theorem rps_tup (h : Rps ex H xs ds) (n : a ∉ ex) (e : H a = some (.tup xs)) : Rp ex H (.ref a) (.tup ds) := .tup n e h.1 h.2
theorem rps_lst (h : Rps ex H xs ds) (n : a ∉ ex) (e : H a = some (.lst xs)) : Rp ex H (.ref a) (.lst ds) := .lst n e h.1 h.2
theorem Rp.tupI (h : Rp ex H v (.tup ds)) : ∃ a xs, v = .ref a ∧ a ∉ ex ∧ H a = some (.tup xs) ∧ Rps ex H xs ds := by
  cases h with
  | tup n e l h => exact ⟨_, _, rfl, n, e, l, h⟩
theorem Rp.lstI (h : Rp ex H v (.lst ds)) : ∃ a xs, v = .ref a ∧ a ∉ ex ∧ H a = some (.lst xs) ∧ Rps ex H xs ds := by
  cases h with
  | lst n e l h => exact ⟨_, _, rfl, n, e, l, h⟩
theorem Rp.intI {i : Int} (h : Rp ex H v (.int i)) : v = .int i := by cases h; rfl
theorem Rp.strI {s : Str} (h : Rp ex H v (.str s)) : v = .str s := by cases h; rfl
theorem Rp.nonI (h : Rp ex H v .non) : v = .non := by cases h; rfl
theorem Rp.blI {b : Bool} (h : Rp ex H v (.bl b)) : v = .bl b := by cases h; rfl
/-- ints -/
theorem rps_ints (ns : List Int) : Rps ex H (ns.map V.int) (ns.map Da.int) := ⟨by simp, fun i x d h1 h2 => by
  rw [List.getElem?_map] at h1 h2
  cases z : ns[i]? with
  | none => rw [z] at h1; cases h1
  | some m => rw [z] at h1 h2; cases h1; cases h2; exact .int m⟩
/-! ### their types -/
def Da.ty : Da → String
  | .non => "NoneType" | .bl _ => "bool" | .int _ => "int" | .str _ => "str" | .tup _ => "tuple" | .lst _ => "list"
theorem Rp.tyx (h : Rp ex H v d) : TyX K H v (.type d.ty) := by
  cases h with
  | non => exact .base .non
  | bl b => exact .base (.bl b)
  | int i => exact .base (.int i)
  | str s => exact .base (.str s)
  | tup n e l h => exact .base (.tup e)
  | lst n e l h => exact .base (.lst e)
/-- isinstance(v, T) -/
def Da.isa (d : Da) (T : String) : Bool := match d with
  | .non => T == "NoneType" | .bl _ => T == "bool" || T == "int" | .int _ => T == "int" | .str _ => T == "str" | .tup _ => T == "tuple" | .lst _ => T == "list"
theorem Da.kit {T : String} (d : Da) (h : T ∈ ["bool", "int", "str", "tuple", "list"]) : PySem.W.kitOne K (.type d.ty) (.type T) = some (d.isa T) := by
  simp only [List.mem_cons, List.not_mem_nil, or_false] at h
  rcases h with rfl | rfl | rfl | rfl | rfl <;> cases d <;> (dsimp only [Da.ty, Da.isa]; exact kit_ty (by decide +kernel))
theorem x_isa {Q : VK} {T : String} (h : Rp ex H v d) (hT : T ∈ ["bool", "int", "str", "tuple", "list"]) (q : Q (.bl (d.isa T)) H) : rIsi K [v, .ty T] H Q :=
  ⟨v, .ty T, .type d.ty, .type T, d.isa T, rfl, .ty T, h.tyx, d.kit hT, q⟩
theorem x_isaB {Q : VK} {T : String} {b : Bool} (h : Rp ex H v d) (hT : T ∈ ["bool", "int", "str", "tuple", "list"]) (hb : d.isa T = b) (q : Q (.bl b) H) : rIsi K [v, .ty T] H Q := x_isa h hT (by rw [hb]; exact q)
theorem x_eqR {Q : VK} (h : scal v v = true) (q : Q (.bl true) H) : rEqX K v v H Q := .inl ⟨h, by rw [decide_eq_true rfl]; exact q⟩
theorem x_isLT {Q : VK} {t : Addr} (h : Rp ex H v d) (e : H t = some (.tup [.ty "list", .ty "tuple"])) (q : Q (.bl (d.isa "list" || d.isa "tuple")) H) : rIsiT K [v, .ref t] H Q := by
  refine ⟨v, t, [.ty "list", .ty "tuple"], .type d.ty, [.type "list", .type "tuple"], (d.isa "list" || d.isa "tuple"), rfl, e, .cons (.ty _) (.cons (.ty _) .nil), h.tyx, ?_, q⟩
  have h1 := d.kit (K := K) (T := "list") (by decide)
  have h2 := d.kit (K := K) (T := "tuple") (by decide)
  refine kitAny_cons h1 (fun e => ?_) (fun e => by rw [e]; rfl)
  refine kitAny_cons h2 (fun e2 => ?_) (fun e2 => by rw [e2, Bool.or_true])
  rw [e, e2]
  exact kitAny_nil
theorem x_lenR {Q : VK} (h : Rp ex H v d) (hd : d = .tup ds ∨ d = .lst ds) (q : Q (.int (ds.length : Int)) H) :
    rLen K [v] H Q := by
  rcases hd with rfl | rfl
  · obtain ⟨a, xs, rfl, n, e, r⟩ := h.tupI
    exact ⟨a, xs, rfl, .inr (SqT.of e), by rw [r.1]; exact q⟩
  · obtain ⟨a, xs, rfl, n, e, r⟩ := h.lstI
    exact ⟨a, xs, rfl, .inl (SqL.of e), by rw [r.1]; exact q⟩
theorem x_lenL {Q : VK} (h : H p = some (.lst xs)) (q : Q (.int (xs.length : Int)) H) :
    rLen K [.ref p] H Q := ⟨p, xs, rfl, .inl (SqL.of h), q⟩
theorem x_lenT {Q : VK} (h : H p = some (.tup xs)) (q : Q (.int (xs.length : Int)) H) :
    rLen K [.ref p] H Q := ⟨p, xs, rfl, .inr (SqT.of h), q⟩
end
/-! ### pure data of a depth; the same in lists -/
inductive Dn : Nat → Da → Prop where
  | non {n} : Dn (n + 1) .non
  | bl {n} (b : Bool) : Dn (n + 1) (.bl b)
  | int {n} (i : Int) : Dn (n + 1) (.int i)
  | str {n} (s : Str) : Dn (n + 1) (.str s)
  | tup {n} {l : List Da} (hl : l.length ≤ 1000) (h : ∀ d, d ∈ l → Dn n d) : Dn (n + 1) (.tup l)
theorem Dn.mono {n m : Nat} {d : Da} (h : Dn n d) : n ≤ m → Dn m d := by
  induction h generalizing m with
  | non => intro z; cases m with | zero => omega | succ m => exact .non
  | bl b => intro z; cases m with | zero => omega | succ m => exact .bl b
  | int i => intro z; cases m with | zero => omega | succ m => exact .int i
  | str s => intro z; cases m with | zero => omega | succ m => exact .str s
  | tup hl h ih => intro z; cases m with | zero => omega | succ m => exact .tup hl fun d hd => ih d hd (by omega)
mutual
def Da.listed : Da → Da
  | .tup l => .lst (listedL l)
  | d => d
def listedL : List Da → List Da
  | [] => []
  | d :: l => d.listed :: listedL l
end
theorem listedL_eq (l : List Da) : listedL l = l.map Da.listed := by
  induction l with
  | nil => rfl
  | cons d l ih => rw [listedL, List.map_cons, ih]
theorem listed_tup (l : List Da) : (Da.tup l).listed = .lst (l.map Da.listed) := by
  rw [Da.listed, listedL_eq]
end Bx
namespace Bx
open PySem L2
section
variable {H : Hp} {Q : VK} {i j : Int} {xs : List V} {m : Nat} {p : Addr} {K : PySem.W.Frag} {v : V} {P : Prop}
theorem sz {n : Nat} (h : n ≤ 100000) : n ≤ sizeLine := Nat.le_trans h (by decide)
theorem szl {n : Nat} (h : n < 100000) : n < sizeLine := Nat.lt_of_lt_of_le h (by decide)
theorem x_exI {P : Int → Prop} (q : P i) : ∃ j, V.int i = V.int j ∧ P j := ⟨i, rfl, q⟩
theorem x_mkt (hm : xs.length = m) (h : m ≤ 100000) (q : ∀ p, H p = none → Q (.ref p) (upd H p (.tup xs))) : mkT xs H Q := ⟨by rw [hm]; exact sz h, q⟩
theorem x_mkl (hm : xs.length = m) (h : m ≤ 100000) (q : ∀ p, H p = none → Q (.ref p) (upd H p (.lst xs))) : mkL xs H Q := ⟨by rw [hm]; exact sz h, q⟩
theorem x_bmL {f : Prop} (h : H p = some (.lst xs)) (q : f) : tyV K "list" (.ref p) H ∧ f := ⟨.inl ⟨rfl, xs, SqL.of h⟩, q⟩
theorem cmulL {i j : Int} (h1 : -(2 ^ 64) < i) (h2 : i < 2 ^ 64) : CMul i j := .inl ⟨h1, h2⟩
theorem cmulR {i j : Int} (h1 : -(2 ^ 64) < j) (h2 : j < 2 ^ 64) : CMul i j := .inr ⟨h1, h2⟩
theorem map_snoc (rs : List Int) (w : Int) : rs.map V.int ++ [V.int w] = (rs ++ [w]).map V.int := by simp
theorem x_start {N : List Str} {vs : List V} {t : TS} {D : Ends} {σ' : L2.St} (e : start N vs = σ') (h : t D σ' H) : t D (start N vs) H := e ▸ h
theorem ints_at {ns : List Int} {j : Nat} {z : Int} (h : ns[j]? = some z) : (ns.map V.int)[j]? = some (V.int z) := by rw [List.getElem?_map, h]; rfl
theorem x_lcS {σ : L2.St} {a : Addr} {g : TG} {tt : TT} {tx : TE} {vs : List Nat} (h : H a = some (.tup xs) ∨ H a = some (.lst xs)) (Pv : Addr → Nat → Hp → Prop) (h0 : ∀ D, H D = none → Pv D 0 (upd H D (.lst []))) (hl : ∀ D i H1, Pv D i H1 → Same H H1)
    (hs : ∀ D i x H, xs[i]? = some x → Pv D i H → g x (wipe σ vs) H fun σ2 H2 => wipe σ2 vs = wipe σ vs ∧ tt σ2 H2 fun b H3 =>
      if b = true then tx σ2 H3 fun y H4 => ∃ acc, H4 D = some (.lst acc) ∧ acc.length < sizeLine ∧ Pv D (i + 1) (upd H4 D (.lst (acc ++ [y]))) else Pv D (i + 1) H3) (hd : ∀ D H, Pv D xs.length H → Q (.ref D) H) :
    ∃ a', V.ref a = .ref a' ∧ (((∃ xs, SqL K H a' xs) ∧ rawC (Itl K a') g tt tx vs σ H Q) ∨ ((∃ xs, SqT K H a' xs) ∧ rawC (Itt K a') g tt tx vs σ H Q)) := by
  rcases h with h | h
  · exact x_lcT (SqT.of h) Pv h0 (fun D i H1 _ p => SqT.of (hl D i H1 p _ _ h)) hs hd
  · exact x_lcL (SqL.of h) Pv h0 (fun D i H1 _ p => SqL.of (hl D i H1 p _ _ h)) hs hd
theorem x_lenS {p : Addr} (h : H p = some (.tup xs) ∨ H p = some (.lst xs)) (q : Q (.int (xs.length : Int)) H) : rLen K [.ref p] H Q := h.elim (fun h => x_lenT h q) fun h => x_lenL h q
theorem x_ixS {p : Addr} {i : Int} (h : H p = some (.tup xs) ∨ H p = some (.lst xs)) (e : atI xs i = some v) (q : Q v H) : rIxX K (.ref p) (.int i) H Q := h.elim (fun h => x_ixT h e q) fun h => x_ixL h e q
/-- a sequence of data, a list or a tuple -/
def Da.seq (d : Da) (ds : List Da) : Prop := d = .tup ds ∨ d = .lst ds
theorem Rp.seqI {ex : List Addr} {d : Da} {ds : List Da} (h : Rp ex H v d) (e : d.seq ds) : ∃ a xs, v = .ref a ∧ a ∉ ex ∧ (H a = some (.tup xs) ∨ H a = some (.lst xs)) ∧ Rps ex H xs ds := by
  rcases e with rfl | rfl
  · obtain ⟨a, xs, e1, e2, e3, e4⟩ := h.tupI
    exact ⟨a, xs, e1, e2, .inl e3, e4⟩
  · obtain ⟨a, xs, e1, e2, e3, e4⟩ := h.lstI
    exact ⟨a, xs, e1, e2, .inr e3, e4⟩
theorem cut_from (xs : List V) (k : Nat) : cutV xs (some (k : Int)) none = xs.drop k := by
  unfold cutV
  rw [HT.sIx_nat, HT.sIx_none]
  by_cases h : k ≤ xs.length
  · rw [Nat.min_eq_left h, List.take_of_length_le (by rw [List.length_drop]; exact Nat.le_refl _)]
  · rw [Nat.min_eq_right (by omega), List.drop_eq_nil_of_le (Nat.le_refl _), List.drop_eq_nil_of_le (by omega), List.take_nil]
theorem cut_to (xs : List V) (k : Nat) : cutV xs none (some (k : Int)) = xs.take k := by
  unfold cutV
  rw [HT.sIx_nat, HT.sIx_none, List.drop_zero, Nat.sub_zero]
  by_cases h : k ≤ xs.length
  · rw [Nat.min_eq_left h]
  · rw [Nat.min_eq_right (by omega), List.take_of_length_le (Nat.le_refl _), List.take_of_length_le (by omega)]
section
variable {ex : List Addr} {d d' : Da} {ds es : List Da} {u : V} {z : Int}
theorem rps_take {n : Nat} (h : Rps ex H xs ds) : Rps ex H (xs.take n) (ds.take n) := ⟨by rw [List.length_take, List.length_take, h.1], fun i x d h1 h2 => by
  rw [List.getElem?_take] at h1 h2
  by_cases c : i < n
  · rw [if_pos c] at h1 h2; exact h.2 i x d h1 h2
  · rw [if_neg c] at h1; cases h1⟩
theorem rps_drop {n : Nat} (h : Rps ex H xs ds) : Rps ex H (xs.drop n) (ds.drop n) := ⟨by rw [List.length_drop, List.length_drop, h.1], fun i x d h1 h2 => by
  rw [List.getElem?_drop] at h1 h2
  exact h.2 _ x d h1 h2⟩
theorem x_mkT (r : Rps ex H xs ds) (L : Live ex H) (hl : ds.length ≤ 100000) (q : ∀ v' H', Same H H' → Rp ex H' v' (.tup ds) → Q v' H') : mkT xs H Q :=
  ⟨by rw [r.1]; exact sz hl, fun p hp => q _ _ (Same.new (Same.refl _) hp) (rps_tup (rps_same r (Same.new (Same.refl _) hp)) (L.new hp) upd_same)⟩
theorem x_mkL (r : Rps ex H xs ds) (L : Live ex H) (hl : ds.length ≤ 100000) (q : ∀ v' H', Same H H' → Rp ex H' v' (.lst ds) → Q v' H') : mkL xs H Q :=
  ⟨by rw [r.1]; exact sz hl, fun p hp => q _ _ (Same.new (Same.refl _) hp) (rps_lst (rps_same r (Same.new (Same.refl _) hp)) (L.new hp) upd_same)⟩
theorem x_slR {lo hi : Option Int} (h : Rp ex H v (.tup ds)) (L : Live ex H) (q : ∀ v' H' ds', Same H H' → Rp ex H' v' (.tup ds') → (∀ xs, Rps ex H xs ds → Rps ex H (cutV xs lo hi) ds' ) → Q v' H') (hd : ∃ ds', ∀ xs, Rps ex H xs ds → Rps ex H (cutV xs lo hi) ds') : rSlX K v lo hi H Q := by
  obtain ⟨ds', hc⟩ := hd
  obtain ⟨a, xs, rfl, n, e, r⟩ := h.tupI
  refine x_slT e (fun w => ?_) (fun _ p hp => q _ _ ds' (Same.new (Same.refl _) hp) (rps_tup (rps_same (hc xs r) (Same.new (Same.refl _) hp)) (L.new hp) upd_same) hc)
  have e2 : cutV xs lo hi = xs := by
    unfold cutV
    rw [w.1, w.2, List.drop_zero, Nat.sub_zero, List.take_length]
  have r2 := hc xs r
  rw [e2] at r2
  exact q _ _ ds' (Same.refl _) (rps_tup r2 n e) hc
theorem x_slFrom {k : Nat} (h : Rp ex H v (.tup ds)) (hz : z = (k : Int)) (L : Live ex H) (q : ∀ v' H', Same H H' → Rp ex H' v' (.tup (ds.drop k)) → Q v' H') : rSlX K v (some z) none H Q := by
  subst hz
  obtain ⟨a, xs, rfl, n, e, r⟩ := h.tupI
  have r2 : Rps ex H (cutV xs (some (k : Int)) none) (ds.drop k) := by rw [cut_from]; exact rps_drop r
  refine x_slT e (fun w => ?_) (fun _ p hp => q _ _ (Same.new (Same.refl _) hp) (rps_tup (rps_same r2 (Same.new (Same.refl _) hp)) (L.new hp) upd_same))
  have e2 : cutV xs (some (k : Int)) none = xs := by
    unfold cutV
    rw [w.1, w.2, List.drop_zero, Nat.sub_zero, List.take_length]
  rw [e2] at r2
  exact q _ _ (Same.refl _) (rps_tup r2 n e)
theorem x_slTo {k : Nat} (h : Rp ex H v (.tup ds)) (hz : z = (k : Int)) (L : Live ex H) (q : ∀ v' H', Same H H' → Rp ex H' v' (.tup (ds.take k)) → Q v' H') : rSlX K v none (some z) H Q := by
  subst hz
  obtain ⟨a, xs, rfl, n, e, r⟩ := h.tupI
  have r2 : Rps ex H (cutV xs none (some (k : Int))) (ds.take k) := by rw [cut_to]; exact rps_take r
  refine x_slT e (fun w => ?_) (fun _ p hp => q _ _ (Same.new (Same.refl _) hp) (rps_tup (rps_same r2 (Same.new (Same.refl _) hp)) (L.new hp) upd_same))
  have e2 : cutV xs none (some (k : Int)) = xs := by
    unfold cutV
    rw [w.1, w.2, List.drop_zero, Nat.sub_zero, List.take_length]
  rw [e2] at r2
  exact q _ _ (Same.refl _) (rps_tup r2 n e)
theorem x_addR (h1 : Rp ex H v (.tup ds)) (h2 : Rp ex H u (.tup es)) (hl : ds.length + es.length ≤ 100000) (L : Live ex H) (q : ∀ v' H', Same H H' → Rp ex H' v' (.tup (ds ++ es)) → Q v' H') : rAddX K v u H Q := by
  obtain ⟨a, xs, rfl, n1, e1, r1⟩ := id h1.tupI
  obtain ⟨b, ys, rfl, n2, e2, r2⟩ := id h2.tupI
  refine x_addT e1 e2 (by rw [r1.1, r2.1]; exact sz hl) (fun w => ?_) (fun _ w => ?_) (fun p hp => q _ _ (Same.new (Same.refl _) hp) (rps_tup (rps_same (rps_append r1 r2) (Same.new (Same.refl _) hp)) (L.new hp) upd_same))
  · subst w
    have e : ds = [] := List.length_eq_zero_iff.mp r1.1.symm
    subst e
    exact q _ _ (Same.refl _) h2
  · subst w
    have e : es = [] := List.length_eq_zero_iff.mp r2.1.symm
    subst e
    rw [List.append_nil] at q
    exact q _ _ (Same.refl _) h1
theorem x_addLR (h1 : Rp ex H v (.lst ds)) (h2 : Rp ex H u (.lst es)) (hl : ds.length + es.length ≤ 100000) (L : Live ex H) (q : ∀ v' H', Same H H' → Rp ex H' v' (.lst (ds ++ es)) → Q v' H') : rAddX K v u H Q := by
  obtain ⟨a, xs, rfl, n1, e1, r1⟩ := h1.lstI
  obtain ⟨b, ys, rfl, n2, e2, r2⟩ := h2.lstI
  exact x_addL e1 e2 (by rw [r1.1, r2.1]; exact sz hl) (fun p hp => q _ _ (Same.new (Same.refl _) hp) (rps_lst (rps_same (rps_append r1 r2) (Same.new (Same.refl _) hp)) (L.new hp) upd_same))
theorem rps_rep (r : Rps ex H xs ds) : ∀ k : Nat, Rps ex H (List.replicate k xs).flatten (List.replicate k ds).flatten
  | 0 => .nil
  | k + 1 => by
    rw [List.replicate_succ, List.replicate_succ, List.flatten_cons, List.flatten_cons]
    exact rps_append r (rps_rep r k)
theorem x_repR (h1 : Rp ex H v (.tup ds)) (h0 : ds ≠ []) (hl : ds.length ≤ 1000) (h2 : 2 ≤ z) (h3 : z ≤ 1000) (L : Live ex H) (q : ∀ v' H', Same H H' → Rp ex H' v' (.tup (List.replicate z.toNat ds).flatten) → Q v' H') : rMulX K v (.int z) H Q := by
  obtain ⟨a, xs, rfl, n1, e1, r1⟩ := h1.tupI
  exact x_repT e1 (fun w => h0 (List.length_eq_zero_iff.mp (by rw [← r1.1, w]; rfl))) h2 h3 (by rw [r1.1]; exact hl) fun p hp => q _ _ (Same.new (Same.refl _) hp) (rps_tup (rps_same (rps_rep r1 _) (Same.new (Same.refl _) hp)) (L.new hp) upd_same)
theorem x_ixR {i : Nat} (h : Rp ex H v d) (hs : d.seq ds) (e : ds[i]? = some d') (hz : z = (i : Int)) (q : ∀ x, Rp ex H x d' → Q x H) : rIxX K v (.int z) H Q := by
  subst hz
  obtain ⟨a, xs, rfl, n, e1, r⟩ := h.seqI hs
  obtain ⟨x, g, rx⟩ := rps_get r e
  exact x_ixS e1 (atI_nat g) (q x rx)
end
theorem get_ex {α : Type} {l : List α} {i n : Nat} (hn : l.length = n) (h : i < n) : ∃ d, l[i]? = some d := ⟨_, List.getElem?_eq_getElem (by rw [hn]; exact h)⟩
theorem x_try {C : Addr} {i : Nat} {tb : WX → TS} {ts : Addr → Value → Option Addr → TS} {Wo : WX} {σ : L2.St} {n b c : L2.St → Hp → Prop} {r : VK} (q : tb (wAs K (.ref C) i ts Wo ⟨n, r, b, c⟩) ⟨n, r, b, c⟩ σ H) : tTry K C i tb ts Wo ⟨n, r, b, c⟩ σ H := q
theorem x_allB {a : Addr} (bs : List Bool) (h : H a = some (.lst (bs.map V.bl))) (q : Q (.bl (bs.all id)) H) : rAll K [.ref a] H Q := ⟨a, bs, rfl, SqL.of h, q⟩
end
end Bx
namespace Bx
open PySem L2
/-! ### zip of two rows, each a list or a tuple -/
section
variable {prog : Program} {w : World} {A : Around} {E : Value → Shared → Prop} {s : Shared}
def RowAt (t : Bool) (h : Heap) (l : Addr) (xs : Array Value) : Prop := match t with
  | true => h.IsTuple l xs
  | false => h.IsList l xs
def ItAt (t : Bool) (h : Heap) (i l : Addr) (k : Nat) : Prop := match t with
  | true => h.IsTupleIter i l k
  | false => h.IsListIter i l k
theorem RowAt.get {t : Bool} {h : Heap} {l : Addr} {xs : Array Value} (r : RowAt t h l xs) : ∃ o, h.get? l = some o ∧ ∀ h', h'.get? l = some o → RowAt t h' l xs := by
  cases t <;> (obtain ⟨o, e, c⟩ := r; exact ⟨o, e, fun _ e' => ⟨o, e', c⟩⟩)
theorem ItAt.get {t : Bool} {h : Heap} {i l : Addr} {k : Nat} (r : ItAt t h i l k) : ∃ o, h.get? i = some o ∧ (∀ v, o.data ≠ .cell v) ∧ ∀ h', h'.get? i = some o → ItAt t h' i l k := by
  cases t <;> (obtain ⟨o, e, c, d⟩ := r; exact ⟨o, e, fun v q => (by rw [d] at q; cases q), fun _ e' => ⟨o, e', c, d⟩⟩)
theorem RowAt.to {t : Bool} {h h' : Heap} {l : Addr} {xs : Array Value} (r : RowAt t h l xs) (k : ∀ o, h.get? l = some o → h'.get? l = some o) : RowAt t h' l xs :=
  let ⟨o, e, f⟩ := r.get
  f h' (k o e)
theorem ItAt.to {t : Bool} {h h' : Heap} {i l : Addr} {n : Nat} (r : ItAt t h i l n) (k : ∀ o, h.get? i = some o → h'.get? i = some o) : ItAt t h' i l n :=
  let ⟨o, e, _, f⟩ := r.get
  f h' (k o e)
theorem nx_item {t : Bool} {i l : Addr} {k : Nat} {xs : Array Value} {x : Value} {Q : Value → Shared → Prop} (r : ItAt t s.heap i l k) (b : RowAt t s.heap l xs) (e : xs[k]? = some x)
    (q : ∀ g, ItAt t g i l (k + 1) → Heap.SameBut i s.heap g → Q x { s with heap := g }) : wpAny (model prog w) A (Builtin.SmallTypes.nextOf (.ref i)) Q E s := by
  cases t
  · exact wpAny_nextOf_list_item r b e q
  · exact RZ.nextOf_tuple_item r b e q
theorem nx_end {t : Bool} {i l : Addr} {k : Nat} {xs : Array Value} {Q : Value → Shared → Prop} (hh : A.handled = none) (r : ItAt t s.heap i l k) (b : RowAt t s.heap l xs) (e : xs[k]? = none)
    (q : ∀ g c, Heap.ExtBut i s.heap g → (∃ o, g.get? c = some o ∧ o.cls = .type "StopIteration") → E (.ref c) { s with heap := g }) : wpAny (model prog w) A (Builtin.SmallTypes.nextOf (.ref i)) Q E s := by
  cases t
  · exact wpAny_nextOf_list_end hh r b e q
  · exact RZ.nextOf_tuple_end hh r b e q
/-- zip's next row, of rows of either kind -/
theorem zx_item {t u : Bool} {zp Ti To ia ib la lb : Addr} {m n : Nat} {xs ys : Array Value} {x y p0 p1 : Value} {Q : Value → Shared → Prop} (D : ZipApart zp Ti To ia ib la lb)
    (Z : IsZip s.heap zp Ti To .none) (P : IsPair s.heap Ti (.ref ia) (.ref ib)) (O : IsPair s.heap To p0 p1)
    (ra : ItAt t s.heap ia la m) (rb : ItAt u s.heap ib lb n) (qa : RowAt t s.heap la xs) (qb : RowAt u s.heap lb ys) (ex : xs[m]? = some x) (ey : ys[n]? = some y)
    (q : ∀ g, IsZip g zp Ti To (rawInt s.heap.objs.size) → IsPair g To x y → ItAt t g ia la (m + 1) → ItAt u g ib lb (n + 1) → IsPair g s.heap.objs.size x y →
      (∀ c o, c ≠ zp → c ≠ To → c ≠ ia → c ≠ ib → s.heap.get? c = some o → g.get? c = some o) → Q (.ref s.heap.objs.size) { s with heap := g }) :
    wpAny (model prog w) A (Builtin.«zip.__next__» ⟨[.ref zp], []⟩) (fun f s' => ∃ v, f = .done (.ret v) ∧ Q v s') E s := by
  show wpAny _ _ (field (.ref zp) 2 >>= _) _ _ _
  refine wpAny_bind (wpAny_field Z rfl (x := .bool false) rfl (show wpAny _ _ (field (.ref zp) 3 >>= _) _ _ _ from wpAny_bind (wpAny_field Z rfl (x := .ref Ti) rfl (wpAny_bind (wpAny_seqItems P rfl ?_)))))
  show wpAny _ _ (Builtin.SmallTypes.ownedTupleIsFree (.ref zp) >>= _) _ _ _
  unfold Builtin.SmallTypes.ownedTupleIsFree
  refine wpAny_bind (wpAny_bind (wpAny_field Z rfl (x := .none) rfl (wpAny_pure ?_)))
  rw [if_pos rfl]
  refine wpAny_bind (wpAny_rule (wpAny_bind (wpAny_field Z rfl (x := .ref To) rfl (wpAny_bind (wpAny_setField_rec Z (by simp) fun g1 Z1 s1 => ?_)))))
  replace Z1 : IsZip g1 zp Ti To .ellipsis := Z1
  simp only [List.zipIdx_cons, List.zipIdx_nil, List.forIn_cons, List.forIn_nil]
  refine wpAny_bind (wpAny_bind (wpAny_bind (wpAny_onRaise (show wpAny _ _ (Builtin.SmallTypes.nextOf (.ref ia) >>= _) _ _ _ from ?_))))
  refine wpAny_bind (nx_item (ra.to fun o => s1.extBut _ o D.i1z) (qa.to fun o => s1.extBut _ o D.l1z) ex fun g2 ra2 s2 => wpAny_pure ?_)
  have O2 : IsPair g2 To p0 p1 := s2.extBut _ _ D.TOi1 (s1.extBut _ _ D.TOz O)
  refine wpAny_bind (wpAny_seqItems O2 rfl (wpAny_bind (wpAny_updateSeq_pair O2 fun g3 O3 s3 => wpAny_bind (wpAny_letGo (wpAny_pure ?_)))))
  replace O3 : IsPair g3 To x p1 := O3
  refine wpAny_bind (wpAny_bind (wpAny_onRaise (show wpAny _ _ (Builtin.SmallTypes.nextOf (.ref ib) >>= _) _ _ _ from ?_)))
  have k3 : ∀ c o, c ≠ zp → c ≠ To → c ≠ ia → s.heap.get? c = some o → g3.get? c = some o := fun c o n1 n2 n3 e => s3.extBut _ _ n2 (s2.extBut _ _ n3 (s1.extBut _ _ n1 e))
  refine wpAny_bind (nx_item (rb.to fun o => k3 _ o D.i2z D.TOi2.symm D.i12.symm) (qb.to fun o => k3 _ o D.l2z D.l2TO D.l2i1) ey fun g4 rb4 s4 => wpAny_pure ?_)
  have O4 : IsPair g4 To x p1 := s4.extBut _ _ D.TOi2 O3
  refine wpAny_bind (wpAny_seqItems O4 rfl (wpAny_bind (wpAny_updateSeq_pair O4 fun g5 O5 s5 => wpAny_bind (wpAny_letGo (wpAny_pure (wpAny_pure ?_))))))
  replace O5 : IsPair g5 To x y := O5
  refine wpAny_bind (wpAny_seqItems O5 rfl (wpAny_bind (wpAny_newTuple ?_)))
  have sz : g5.objs.size = s.heap.objs.size := by rw [s5.1, s4.1, s3.1, s2.1, s1.1]
  have k5 : ∀ c o, c ≠ zp → c ≠ To → c ≠ ia → c ≠ ib → s.heap.get? c = some o → g5.get? c = some o := fun c o n1 n2 n3 n4 e => s5.extBut _ _ n2 (s4.extBut _ _ n4 (k3 c o n1 n2 n3 e))
  have Z5 : IsZip g5 zp Ti To .ellipsis := s5.extBut _ _ D.TOz.symm (s4.extBut _ _ D.i2z.symm (s3.extBut _ _ D.TOz.symm (s2.extBut _ _ D.i1z.symm Z1)))
  have ra5 : ItAt t g5 ia la (m + 1) := ra2.to fun o e => s5.extBut _ _ D.TOi1.symm (s4.extBut _ _ D.i12 (s3.extBut _ _ D.TOi1.symm e))
  have rb5 : ItAt u g5 ib lb (n + 1) := rb4.to fun o => s5.extBut _ o D.TOi2.symm
  have zl : zp < g5.objs.size := Heap.lt_size Z5
  show wpAny _ _ (Builtin.SmallTypes.ownedTupleHandOut (.ref zp) (.ref g5.objs.size) >>= _) _ _ _
  unfold Builtin.SmallTypes.ownedTupleHandOut
  have Z6 : IsZip (g5.push { cls := .type "tuple", data := .seq #[x, y] }) zp Ti To .ellipsis := Heap.get?_push_of_some _ Z5
  refine wpAny_bind (wpAny_bind (wpAny_setField_rec Z6 (by simp) fun g7 Z7 s7 => ?_))
  replace Z7 : IsZip g7 zp Ti To (rawInt g5.objs.size) := Z7
  refine wpAny_setField_rec Z7 (by simp) fun g8 Z8 s8 => wpAny_pure ⟨_, rfl, ?_⟩
  replace Z8 : IsZip g8 zp Ti To (rawInt g5.objs.size) := Z8
  have k8 : ∀ c o, c ≠ zp → g5.get? c = some o → g8.get? c = some o := fun c o n1 e => s8.extBut _ _ n1 (s7.extBut _ _ n1 (Heap.get?_push_of_some _ e))
  have T8 : IsPair g8 g5.objs.size x y := s8.extBut _ _ (Nat.ne_of_gt zl) (s7.extBut _ _ (Nat.ne_of_gt zl) (Heap.get?_push_size _ rfl))
  show Q (.ref g5.objs.size) _
  rw [sz] at Z8 T8 ⊢
  exact q g8 Z8 (k8 _ _ D.TOz O5) (ra5.to fun o => k8 _ o D.i1z) (rb5.to fun o => k8 _ o D.i2z) T8 fun c o n1 n2 n3 n4 e => k8 c o n1 (k5 c o n1 n2 n3 n4 e)
/-- the end of a zip -/
theorem zx_end {t u : Bool} {zp Ti To ia ib la lb : Addr} {m n : Nat} {xs ys : Array Value} {p0 p1 : Value} {Q : Fin → Shared → Prop} (hh : A.handled = none) (D : ZipApart zp Ti To ia ib la lb)
    (Z : IsZip s.heap zp Ti To .none) (P : IsPair s.heap Ti (.ref ia) (.ref ib)) (O : IsPair s.heap To p0 p1)
    (ra : ItAt t s.heap ia la m) (rb : ItAt u s.heap ib lb n) (qa : RowAt t s.heap la xs) (qb : RowAt u s.heap lb ys) (en : xs[m]? = none ∨ ys[n]? = none)
    (q : ∀ g e, (∀ c o, c ≠ zp → c ≠ To → c ≠ ia → c ≠ ib → s.heap.get? c = some o → g.get? c = some o) → (∃ o, g.get? e = some o ∧ o.cls = .type "StopIteration") → E (.ref e) { s with heap := g }) :
    wpAny (model prog w) A (Builtin.«zip.__next__» ⟨[.ref zp], []⟩) Q E s := by
  show wpAny _ _ (field (.ref zp) 2 >>= _) _ _ _
  refine wpAny_bind (wpAny_field Z rfl (x := .bool false) rfl (show wpAny _ _ (field (.ref zp) 3 >>= _) _ _ _ from wpAny_bind (wpAny_field Z rfl (x := .ref Ti) rfl (wpAny_bind (wpAny_seqItems P rfl ?_)))))
  show wpAny _ _ (Builtin.SmallTypes.ownedTupleIsFree (.ref zp) >>= _) _ _ _
  unfold Builtin.SmallTypes.ownedTupleIsFree
  refine wpAny_bind (wpAny_bind (wpAny_field Z rfl (x := .none) rfl (wpAny_pure ?_)))
  rw [if_pos rfl]
  refine wpAny_bind (wpAny_rule (wpAny_bind (wpAny_field Z rfl (x := .ref To) rfl (wpAny_bind (wpAny_setField_rec Z (by simp) fun g1 Z1 s1 => ?_)))))
  replace Z1 : IsZip g1 zp Ti To .ellipsis := Z1
  have stop : ∀ (g : Heap) (e : Addr), IsZip g zp Ti To .ellipsis → (∀ c o, c ≠ zp → c ≠ To → c ≠ ia → c ≠ ib → s.heap.get? c = some o → g.get? c = some o) → (∃ o, g.get? e = some o ∧ o.cls = .type "StopIteration") →
      wpAny (model prog w) A (setField (.ref zp) 0 .none) (fun _ s' => E (.ref e) s') E { s with heap := g } := fun g e Zg k ⟨o, eo, co⟩ => by
    have ne : e ≠ zp := fun z => by rw [z, Zg] at eo; cases eo; simp at co
    exact wpAny_setField_rec Zg (by simp) fun g' _ s' => q g' e (fun c o n1 n2 n3 n4 h => s'.extBut _ _ n1 (k c o n1 n2 n3 n4 h)) ⟨o, s'.extBut _ _ ne eo, co⟩
  simp only [List.zipIdx_cons, List.zipIdx_nil, List.forIn_cons, List.forIn_nil]
  refine wpAny_bind (wpAny_bind (wpAny_bind (wpAny_onRaise (show wpAny _ _ (Builtin.SmallTypes.nextOf (.ref ia) >>= _) _ _ _ from ?_))))
  cases ex : xs[m]? with
  | none => exact wpAny_bind (nx_end hh (ra.to fun o => s1.extBut _ o D.i1z) (qa.to fun o => s1.extBut _ o D.l1z) ex fun g2 e s2 st => stop g2 e (s2 _ _ D.i1z.symm Z1) (fun c o n1 _ n3 _ h => s2 _ _ n3 (s1.extBut _ _ n1 h)) st)
  | some x =>
    have ey : ys[n]? = none := en.elim (fun h => by rw [ex] at h; cases h) id
    refine wpAny_bind (nx_item (ra.to fun o => s1.extBut _ o D.i1z) (qa.to fun o => s1.extBut _ o D.l1z) ex fun g2 ra2 s2 => wpAny_pure ?_)
    have O2 : IsPair g2 To p0 p1 := s2.extBut _ _ D.TOi1 (s1.extBut _ _ D.TOz O)
    refine wpAny_bind (wpAny_seqItems O2 rfl (wpAny_bind (wpAny_updateSeq_pair O2 fun g3 O3 s3 => wpAny_bind (wpAny_letGo (wpAny_pure ?_)))))
    have k3 : ∀ c o, c ≠ zp → c ≠ To → c ≠ ia → s.heap.get? c = some o → g3.get? c = some o := fun c o n1 n2 n3 e => s3.extBut _ _ n2 (s2.extBut _ _ n3 (s1.extBut _ _ n1 e))
    refine wpAny_bind (wpAny_bind (wpAny_onRaise (show wpAny _ _ (Builtin.SmallTypes.nextOf (.ref ib) >>= _) _ _ _ from ?_)))
    exact wpAny_bind (nx_end hh (rb.to fun o => k3 _ o D.i2z D.TOi2.symm D.i12.symm) (qb.to fun o => k3 _ o D.l2z D.l2TO D.l2i1) ey fun g4 e s4 st => stop g4 e (s4 _ _ D.i2z.symm (s3.extBut _ _ D.TOz.symm (s2.extBut _ _ D.i1z.symm Z1))) (fun c o n1 n2 n3 n4 h => s4 _ _ n4 (k3 c o n1 n2 n3 h)) st)
theorem zx_next {t u : Bool} {zp Ti To ia ib la lb : Addr} {m n : Nat} {xs ys : Array Value} {x y p0 p1 : Value} {Q : Option Value → Shared → Prop} (D : ZipApart zp Ti To ia ib la lb)
    (Z : IsZip s.heap zp Ti To .none) (P : IsPair s.heap Ti (.ref ia) (.ref ib)) (O : IsPair s.heap To p0 p1)
    (ra : ItAt t s.heap ia la m) (rb : ItAt u s.heap ib lb n) (qa : RowAt t s.heap la xs) (qb : RowAt u s.heap lb ys) (ex : xs[m]? = some x) (ey : ys[n]? = some y)
    (q : ∀ g, IsZip g zp Ti To (rawInt s.heap.objs.size) → IsPair g To x y → ItAt t g ia la (m + 1) → ItAt u g ib lb (n + 1) → IsPair g s.heap.objs.size x y →
      (∀ c o, c ≠ zp → c ≠ To → c ≠ ia → c ≠ ib → s.heap.get? c = some o → g.get? c = some o) → Q (some (.ref s.heap.objs.size)) { s with heap := g }) : wpAny (model prog w) A (pyNext (.ref zp)) Q E s := by
  have T : s.TypeIs (.ref zp) "zip" := ⟨_, Z, rfl⟩
  unfold pyNext
  refine wpAny_bind (wpAny_attempt (wpAny_callSpecial?_slot (name := Str.ofString "__next__") T F.slot_zip_next (wpAny_call_entry F.slot_zip_next T F.entry_zip_next ?_ (F.args_zip_next_1 _))))
  exact zx_item D Z P O ra rb qa qb ex ey fun g a b c d e f => wpAny_pure (q g a b c d e f)
theorem zx_stop {t u : Bool} {zp Ti To ia ib la lb : Addr} {m n : Nat} {xs ys : Array Value} {p0 p1 : Value} {Q : Option Value → Shared → Prop} (hh : A.handled = none) (D : ZipApart zp Ti To ia ib la lb)
    (Z : IsZip s.heap zp Ti To .none) (P : IsPair s.heap Ti (.ref ia) (.ref ib)) (O : IsPair s.heap To p0 p1)
    (ra : ItAt t s.heap ia la m) (rb : ItAt u s.heap ib lb n) (qa : RowAt t s.heap la xs) (qb : RowAt u s.heap lb ys) (en : xs[m]? = none ∨ ys[n]? = none)
    (q : ∀ g, (∀ c o, c ≠ zp → c ≠ To → c ≠ ia → c ≠ ib → s.heap.get? c = some o → g.get? c = some o) → Q none { s with heap := g }) : wpAny (model prog w) A (pyNext (.ref zp)) Q E s := by
  have T : s.TypeIs (.ref zp) "zip" := ⟨_, Z, rfl⟩
  unfold pyNext
  refine wpAny_bind (wpAny_attempt (wpAny_callSpecial?_slot (name := Str.ofString "__next__") T F.slot_zip_next (wpAny_call_entry F.slot_zip_next T F.entry_zip_next ?_ (F.args_zip_next_1 _))))
  refine zx_end hh D Z P O ra rb qa qb en fun g e k ⟨o, eo, co⟩ => ?_
  exact wpAny_bind (wpAny_isInstance (T := "StopIteration") (b := true) ⟨o, eo, co⟩ isSubtype_stop (wpAny_pure (q _ k)))
/-! making one -/
abbrev zg1 (c : String) (h : Heap) (l : Addr) : Heap := h.push { cls := .type c, data := .fields #[.ref l, .int 0 0] }
abbrev zg3 (c d : String) (h : Heap) (l k : Addr) : Heap := (zg1 d (zg1 c h l) k).push { cls := .type "tuple", data := .seq #[.ref h.objs.size, .ref (zg1 c h l).objs.size] }
abbrev zg4 (c d : String) (h : Heap) (l k : Addr) : Heap := (zg3 c d h l k).push { cls := .type "tuple", data := .seq #[.none, .none] }
abbrev zg5 (c d : String) (h : Heap) (l k : Addr) : Heap :=
  (zg4 c d h l k).push { cls := .type "zip", data := .fields #[.none, .bool false, .bool false, .ref (zg1 d (zg1 c h l) k).objs.size, .ref (zg3 c d h l k).objs.size] }
def itc : Bool → String
  | true => "tuple_iterator"
  | false => "list_iterator"
def ZNew (t u : Bool) (l k : Addr) (xs ys : Array Value) : Prop := Meets (Builtin.«zip.__new__» ⟨[.type "zip", .ref l, .ref k], []⟩)
    (fun _ R s => RowAt t s.heap l xs ∧ RowAt u s.heap k ys ∧ R (.ok (.ret (.ref (zg4 (itc t) (itc u) s.heap l k).objs.size))) { s with heap := zg5 (itc t) (itc u) s.heap l k })
theorem zn_ff (l k : Addr) (xs ys : Array Value) : Meets (Builtin.«zip.__new__» ⟨[.type "zip", .ref l, .ref k], []⟩)
    (fun _ R s => s.heap.IsList l xs ∧ s.heap.IsList k ys ∧ R (.ok (.ret (.ref (zg4 "list_iterator" "list_iterator" s.heap l k).objs.size))) { s with heap := zg5 "list_iterator" "list_iterator" s.heap l k }) := meets_zip_new l k xs ys
theorem zn_ft (l k : Addr) (xs ys : Array Value) : Meets (Builtin.«zip.__new__» ⟨[.type "zip", .ref l, .ref k], []⟩)
    (fun _ R s => s.heap.IsList l xs ∧ s.heap.IsTuple k ys ∧ R (.ok (.ret (.ref (zg4 "list_iterator" "tuple_iterator" s.heap l k).objs.size))) { s with heap := zg5 "list_iterator" "tuple_iterator" s.heap l k }) :=
  .of_wp fun prog w A R s h => by
    obtain ⟨hp, a1, a2, a3, a4⟩ := s
    obtain ⟨ra, rb, h⟩ := h
    have sub := sub_zip
    have L1 : Heap.IsList (Shared.heap ⟨hp, a1, a2, a3, a4⟩) l xs := ra
    have L2 : Heap.IsTuple (Shared.heap ⟨hp.push { cls := .type "list_iterator", data := .fields #[.ref l, .int 0 0] }, a1, a2, a3, a4⟩) k ys := Heap.IsTuple.push rb _
    wp_walk using wpAny_pyIter_list L1, wpAny_pyIter_tuple L2
    exact ⟨_, rfl, h⟩
theorem zn_tf (l k : Addr) (xs ys : Array Value) : Meets (Builtin.«zip.__new__» ⟨[.type "zip", .ref l, .ref k], []⟩)
    (fun _ R s => s.heap.IsTuple l xs ∧ s.heap.IsList k ys ∧ R (.ok (.ret (.ref (zg4 "tuple_iterator" "list_iterator" s.heap l k).objs.size))) { s with heap := zg5 "tuple_iterator" "list_iterator" s.heap l k }) :=
  .of_wp fun prog w A R s h => by
    obtain ⟨hp, a1, a2, a3, a4⟩ := s
    obtain ⟨ra, rb, h⟩ := h
    have sub := sub_zip
    have L1 : Heap.IsTuple (Shared.heap ⟨hp, a1, a2, a3, a4⟩) l xs := ra
    have L2 : Heap.IsList (Shared.heap ⟨hp.push { cls := .type "tuple_iterator", data := .fields #[.ref l, .int 0 0] }, a1, a2, a3, a4⟩) k ys := Heap.IsList.push rb _
    wp_walk using wpAny_pyIter_tuple L1, wpAny_pyIter_list L2
    exact ⟨_, rfl, h⟩
theorem zn_tt (l k : Addr) (xs ys : Array Value) : Meets (Builtin.«zip.__new__» ⟨[.type "zip", .ref l, .ref k], []⟩)
    (fun _ R s => s.heap.IsTuple l xs ∧ s.heap.IsTuple k ys ∧ R (.ok (.ret (.ref (zg4 "tuple_iterator" "tuple_iterator" s.heap l k).objs.size))) { s with heap := zg5 "tuple_iterator" "tuple_iterator" s.heap l k }) := RZ.meets_zipT_new l k xs ys
theorem zx_new (t u : Bool) (l k : Addr) (xs ys : Array Value) : ZNew t u l k xs ys := by
  cases t <;> cases u
  · exact zn_ff l k xs ys
  · exact zn_ft l k xs ys
  · exact zn_tf l k xs ys
  · exact zn_tt l k xs ys
theorem itAt_new {t : Bool} {h : Heap} {a l : Addr} (e : h.get? a = some { cls := .type (itc t), data := .fields #[.ref l, .int 0 0] }) : ItAt t h a l 0 := by
  cases t <;> exact ⟨_, e, rfl, rfl⟩
theorem zx_call {t u : Bool} {l k : Addr} {xs ys : Array Value} {Q : Value → Shared → Prop} (ra : RowAt t s.heap l xs) (rb : RowAt u s.heap k ys)
    (q : ∀ g, IsZip g (s.heap.objs.size + 4) (s.heap.objs.size + 2) (s.heap.objs.size + 3) .none → IsPair g (s.heap.objs.size + 2) (.ref s.heap.objs.size) (.ref (s.heap.objs.size + 1)) →
      IsPair g (s.heap.objs.size + 3) .none .none → ItAt t g s.heap.objs.size l 0 → ItAt u g (s.heap.objs.size + 1) k 0 →
      (∀ c o, s.heap.get? c = some o → g.get? c = some o) → Q (.ref (s.heap.objs.size + 4)) { s with heap := g }) : wpAny (model prog w) A (call (.type "zip") [.ref l, .ref k]) Q E s := by
  refine callType_new F.called_zip (by decide) (F.typeCall_zip_2 _ _) (F.newCall_zip_2 _ _) (fun obj => F.args_object_init_3 obj _ _) F.entry_zip_new (zx_new t u l k xs ys) ⟨ra, rb, ?_⟩
  have n1 : (zg1 (itc t) s.heap l).objs.size = s.heap.objs.size + 1 := Heap.size_push ..
  have n2 : (zg1 (itc u) (zg1 (itc t) s.heap l) k).objs.size = s.heap.objs.size + 2 := (Heap.size_push ..).trans (by rw [n1])
  have n3 : (zg3 (itc t) (itc u) s.heap l k).objs.size = s.heap.objs.size + 3 := (Heap.size_push ..).trans (by rw [n2])
  have n4 : (zg4 (itc t) (itc u) s.heap l k).objs.size = s.heap.objs.size + 4 := (Heap.size_push ..).trans (by rw [n3])
  have up : ∀ {h : Heap} {c : Addr} {o o' : Obj}, h.get? c = some o → (h.push o').get? c = some o := fun e => Heap.get?_push_of_some _ e
  have e5 : IsZip (zg5 (itc t) (itc u) s.heap l k) (zg4 (itc t) (itc u) s.heap l k).objs.size (zg1 (itc u) (zg1 (itc t) s.heap l) k).objs.size (zg3 (itc t) (itc u) s.heap l k).objs.size .none := Heap.get?_push_size _ rfl
  have e4 : (zg5 (itc t) (itc u) s.heap l k).get? (zg3 (itc t) (itc u) s.heap l k).objs.size = some _ := up (Heap.get?_push_size _ rfl)
  have e3 : (zg5 (itc t) (itc u) s.heap l k).get? (zg1 (itc u) (zg1 (itc t) s.heap l) k).objs.size = some _ := up (up (Heap.get?_push_size _ rfl))
  have e2 : (zg5 (itc t) (itc u) s.heap l k).get? (zg1 (itc t) s.heap l).objs.size = some _ := up (up (up (Heap.get?_push_size _ rfl)))
  have e1 : (zg5 (itc t) (itc u) s.heap l k).get? s.heap.objs.size = some _ := up (up (up (up (Heap.get?_push_size _ rfl))))
  show _ ∧ _
  rw [n2, n3, n4] at e5
  rw [n3] at e4
  rw [n1, n2] at e3
  rw [n1] at e2
  rw [n4]
  exact ⟨⟨_, e5, rfl⟩, q _ e5 e3 e4 (itAt_new e1) (itAt_new e2) fun c o e => up (up (up (up (up e))))⟩
end
/-! as something walked -/
def SqB (K : PySem.W.Frag) (t : Bool) (H : Hp) (a : Addr) (xs : List V) : Prop := match t with
  | true => SqT K H a xs
  | false => SqL K H a xs
theorem SqB.to {X : Cx} {pins : List (Addr × Obj)} {σ : L2.St} {H : Hp} {s : Shared} {t : Bool} {a : Addr} {xs : List V} (q : SqB X.K t H a xs) (I : Inv X pins σ H s) : ∃ its : List Value, Vals xs its ∧ RowAt t s.heap a its.toArray := by
  cases t
  · obtain ⟨its, r, p, _⟩ := I.list q
    exact ⟨its, r, p.isList⟩
  · obtain ⟨its, r, p, _⟩ := I.tuple q
    exact ⟨its, r, p⟩
theorem SqB.inj {X : Cx} {pins : List (Addr × Obj)} {σ : L2.St} {H : Hp} {s : Shared} {t : Bool} {a : Addr} {xs ys : List V} (q : SqB X.K t H a xs) (q' : SqB X.K t H a ys) (I : Inv X pins σ H s) : xs = ys := by
  cases t
  · exact I.list_inj q q'
  · exact I.tuple_inj q q'
def Itz2 (K : PySem.W.Frag) (t u : Bool) (a b : Addr) : It where
  go := fun i H => ∃ (xs ys : List V) (x y : V), SqB K t H a xs ∧ SqB K u H b ys ∧ xs[i]? = some x ∧ ys[i]? = some y
  yld := fun i H v H' => ∃ T x y, v = .ref T ∧ H T = none ∧ H' = upd H T (.tup [x, y]) ∧ (∀ xs, SqB K t H a xs → xs[i]? = some x) ∧ ∀ ys, SqB K u H b ys → ys[i]? = some y
  stop := fun i H => ∃ xs ys : List V, SqB K t H a xs ∧ SqB K u H b ys ∧ (xs.length ≤ i ∨ ys.length ≤ i)
def zTn (t u : Bool) (a b zp Ti To ia ib : Addr) (i : Nat) (h : Heap) : Prop := IsZip h zp Ti To .none ∧ IsPair h Ti (.ref ia) (.ref ib) ∧ (∃ x y, IsPair h To x y) ∧ ItAt t h ia a i ∧ ItAt u h ib b i
theorem mem5 {c zp Ti To ia ib : Addr} (h : c ∈ [zp, Ti, To, ia, ib]) : c = zp ∨ c = Ti ∨ c = To ∨ c = ia ∨ c = ib := by simpa using h
theorem turn_zx {P : Program} {w : World} {K : PySem.W.Frag} {elts : List Expr} {kk : Nat} {tpos : Pos} {t u : Bool} {a b zp Ti To ia ib : Addr} (D : ZipApart zp Ti To ia ib a b) :
    Turn P w K (.Tuple elts kk tpos) (Itz2 K t u a b) [zp, Ti, To, ia, ib] zp (zTn t u a b zp Ti To ia ib) where
  mem := by simp
  obj := fun i h ⟨Z, P, ⟨x, y, O⟩, ra, rb⟩ c hc => by
    obtain ⟨oa, ea, da, _⟩ := ra.get
    obtain ⟨ob, eb, db, _⟩ := rb.get
    rcases mem5 hc with q | q | q | q | q <;> rw [q]
    · exact ⟨_, Z, fun _ z => nomatch z⟩
    · exact ⟨_, P, fun _ z => nomatch z⟩
    · exact ⟨_, O, fun _ z => nomatch z⟩
    · exact ⟨oa, ea, da⟩
    · exact ⟨ob, eb, db⟩
  keep := fun i h h' ⟨Z, P, ⟨x, y, O⟩, ra, rb⟩ k => ⟨k zp (by simp) _ Z, k Ti (by simp) _ P, ⟨x, y, k To (by simp) _ O⟩, ra.to fun o e => k ia (by simp) o e, rb.to fun o e => k ib (by simp) o e⟩
  item := by
    intro X hP hw hK hc i pins s σ H E I hf ⟨Z, P, ⟨x0, y0, O⟩, ra, rb⟩ ⟨xs, ys, x, y, qa, qb, ex, ey⟩
    subst hP hw hK
    obtain ⟨its, rv, pa⟩ := qa.to I
    obtain ⟨its', rv', pb⟩ := qb.to I
    obtain ⟨v, ev, rx⟩ := rv.get ex
    obtain ⟨v', ev', ry⟩ := rv'.get ey
    have zl := Heap.lt_size Z
    refine zx_next D Z P O ra rb pa pb (x := v) (y := v') (by simpa using ev) (by simpa using ev') fun g Z' O' ra' rb' T' k => ?_
    refine ⟨_, rfl, wpAny_letOwnedTupleGo_zip (s := { s with heap := g }) Z' fun g' Z'' sb => ?_⟩
    have T2 : g'.get? s.heap.objs.size = some { cls := .type "tuple", data := .seq #[v, v'] } := (sb.2 _ (Nat.ne_of_gt zl)).trans T'
    have new : ObjOk X.prog X.w (upd H s.heap.objs.size (.tup [x, y])) g' s.heap.objs.size (.tup [x, y]) := ⟨(by decide : 2 ≤ sizeLine), [v, v'], .cons rx (.cons ry .nil), ⟨_, T2, rfl, _, rfl⟩⟩
    have kk : ∀ c o, c ∉ [zp, Ti, To, ia, ib] → s.heap.get? c = some o → g'.get? c = some o := fun c o nc e => by
      have n : ∀ d ∈ [zp, Ti, To, ia, ib], c ≠ d := fun d hd z => nc (z ▸ hd)
      exact (sb.2 c (n zp (by simp))).trans (k c o (n zp (by simp)) (n To (by simp)) (n ia (by simp)) (n ib (by simp)) e)
    have I1 : Inv X pins σ (upd H s.heap.objs.size (.tup [x, y])) { s with heap := g' } := I.turnedNew (t' := s.toks) (ch := [zp, Ti, To, ia, ib]) kk hf (Nat.le_refl _) new
    refine ⟨.ref s.heap.objs.size, _, I1, rfl, ⟨_, x, y, rfl, I.hok.fresh (Nat.le_refl _), rfl, fun l hl => ?_, fun l hl => ?_⟩, ⟨Z'', ?_, ⟨v, v', ?_⟩, ?_, ?_⟩, fun c hcm => ?_⟩
    · rw [hl.inj qa I]; exact ex
    · rw [hl.inj qb I]; exact ey
    · exact (sb.2 _ D.TIz).trans (k _ _ D.TIz D.TITO D.TIi1 D.TIi2 P)
    · exact (sb.2 _ D.TOz).trans O'
    · exact ra'.to fun o e => (sb.2 _ D.i1z).trans e
    · exact rb'.to fun o e => (sb.2 _ D.i2z).trans e
    · have hlt : c < s.heap.objs.size := by
        obtain ⟨oa, ea, _⟩ := ra.get
        obtain ⟨ob, eb, _⟩ := rb.get
        rcases mem5 hcm with q | q | q | q | q <;> rw [q]
        · exact zl
        · exact Heap.lt_size P
        · exact Heap.lt_size O
        · exact Heap.lt_size ea
        · exact Heap.lt_size eb
      rw [upd_ne (Nat.ne_of_lt hlt)]
      exact (hf c hcm).1
  done := by
    intro X hP hw hK hc i pins s σ H E I hf ⟨Z, P, ⟨x0, y0, O⟩, ra, rb⟩ ⟨xs, ys, qa, qb, en⟩
    subst hP hw hK
    obtain ⟨its, rv, pa⟩ := qa.to I
    obtain ⟨its', rv', pb⟩ := qb.to I
    have l1 := rv.length
    have l2 := rv'.length
    refine zx_stop (I.ok.hd hc) D Z P O ra rb pa pb (en.imp (fun q => by simp; omega) fun q => by simp; omega) fun g k => ⟨rfl, I.turnedL (t' := s.toks) (ch := [zp, Ti, To, ia, ib]) (fun c o nc e => ?_) hf⟩
    have n : ∀ d ∈ [zp, Ti, To, ia, ib], c ≠ d := fun d hd z => nc (z ▸ hd)
    exact k c o (n zp (by simp)) (n To (by simp)) (n ia (by simp)) (n ib (by simp)) e
  self := fun A i s Q E st h => wpAny_pyIter_zip st.1 h
/-- zip(a, b) walked -/
def iZx (K : PySem.W.Frag) (ta : TA) : TI := fun σ H R => ta σ H fun vs H1 => ∃ a b xs ys t u, vs = [.ref a, .ref b] ∧ SqB K t H1 a xs ∧ SqB K u H1 b ys ∧ R (Itz2 K t u a b) H1
theorem pi_zx {X : Cx} {e e2 : Expr} {ta : TA} {p pos tpos : Pos} {elts : List Expr} {kk : Nat} (hg : Gl X "zip") (hm : X.mg "zip" = none) (ha : PA X [e, e2] ta)
    (hs : starEach [e, e2] X.env = (false, eval e X.env) :: starEach [e2] X.env := by rfl) (hpl : (backTo pos (starEach [e2] X.env)).any (·.1) = false := by rfl) :
    PI X (.Tuple elts kk tpos) (.Call (.Name "zip" p) [e, e2] [] pos) (iZx X.K ta) := by
  refine ⟨fun pins s σ H R I h => PyProof.Rows.Call_ (ld_blt I hg hm PyProof.Rows.boot_zip (PyProof.Rows.callWith_type1 (thn (ha.run pos pins s σ H _ I h) fun us s1 ⟨vs, H1, I1, r1, q1⟩ => ?_) hs hpl))⟩
  obtain ⟨a, b, xs, ys, t, u, rfl, qa, qb, q⟩ := q1
  cases r1 with
  | cons r rr =>
    cases rr with
    | cons r' rr =>
      cases rr
      cases r
      cases r'
      obtain ⟨its, rv, pa⟩ := qa.to I1
      obtain ⟨its', rv', pb⟩ := qb.to I1
      obtain ⟨oa, ea, _⟩ := pa.get
      obtain ⟨ob, eb, _⟩ := pb.get
      refine zx_call pa pb fun g Z P O ra rb k => wpAny_pyIter_zip Z ?_
      refine ⟨_, _, _, _, H1, rfl, I1.kept (t' := s1.toks) k, turn_zx (PySem.W.ktu_apart s1.heap.objs.size a b (Heap.lt_size ea) (Heap.lt_size eb)), ⟨Z, P, ⟨_, _, O⟩, ra, rb⟩, fun c hcm => ?_, q⟩
      have le : s1.heap.objs.size ≤ c := by
        rcases mem5 hcm with z | z | z | z | z <;> rw [z] <;> omega
      exact I1.fpOk le (I1.hok.fresh le)
end Bx
namespace Bx
open PySem L2
section
variable {H : Hp} {Q : VK} {K : PySem.W.Frag} {v u : V} {ex : List Addr} {d d1 d2 : Da} {ds es fs : List Da} {σ : L2.St} {vs : List Nat} {g : TG} {tt : TT} {tx : TE} {m : Nat}
/-- a comprehension that makes a row of data, over anything walked; Iv, what else is known -/
theorem raw_map {J : It} {eo : List Addr} (Iv : Hp → Prop) (sub : ∀ a, a ∈ ex → a ∈ eo) (hf : fs.length = m) (hm : m < 100000) (I0 : Iv H) (hL : ∀ H', Iv H' → Live eo H') (hI : ∀ H' D o, H D = none → Iv H' → Iv (upd H' D o))
    (hstop : ∀ H', Kp ex H H' → J.stop m H') (hgo : ∀ i H', i < m → Kp ex H H' → J.go i H')
    (hs : ∀ D (i : Nat) x f H1 H' (N : V → Hp → Prop) (Nx : Hp → Prop), H D = none → i < m → fs[i]? = some f → Kp ex H H1 → Live (D :: eo) H1 → Iv H1 → J.yld i H1 x H' → (∀ y H4, Kp ex H1 H4 → Iv H4 → Rp (D :: eo) H4 y f → N y H4) →
      g x (wipe σ vs) H' fun σ2 H2 => wipe σ2 vs = wipe σ vs ∧ tt σ2 H2 fun b H3 => if b = true then tx σ2 H3 N else Nx H3)
    (hd : ∀ v' H', Kp ex H H' → Iv H' → Rp eo H' v' (.lst fs) → Q v' H') : rawC J g tt tx vs σ H Q := by
  intro D hD
  have nD : D ∉ eo := (hL H I0).new hD
  have nE : D ∉ ex := fun z => nD (sub _ z)
  refine ⟨fun i k H' => k = m - i ∧ i ≤ m ∧ Kp ex H H' ∧ Iv H' ∧ ∃ ys, H' D = some (.lst ys) ∧ Rps (D :: eo) H' ys (fs.take i), ⟨m, rfl, Nat.zero_le _, Kp.refl.new hD, hI _ _ _ hD I0, [], upd_same, by rw [List.take_zero]; exact Rps.nil⟩, ?_⟩
  rintro i k H' ⟨rfl, hi, kp, iv, ys, ey, ry⟩
  by_cases c : i < m
  · refine .inr ⟨hgo i H' c kp, fun H4 => i + 1 ≤ m ∧ Kp ex H H4 ∧ Iv H4 ∧ ∃ ys, H4 D = some (.lst ys) ∧ Rps (D :: eo) H4 ys (fs.take (i + 1)), fun H4 q => ⟨m - (i + 1), by omega, rfl, q⟩, fun x H1 y => ?_⟩
    have gi : fs[i]? = some (fs[i]'(by omega)) := List.getElem?_eq_getElem _
    refine hs D i x _ H' H1 _ _ hD c gi kp ((hL _ iv).cons ey) iv y fun z H4 k4 iv4 r4 => ⟨ys, k4 _ _ nE ey, szl ?_, c, (kp.trans k4).own hD, hI _ _ _ hD iv4, ys ++ [z], upd_same, ?_⟩
    · rw [ry.1, List.length_take]; omega
    · have e : fs.take (i + 1) = fs.take i ++ [fs[i]'(by omega)] := by rw [List.take_succ, gi]; rfl
      rw [e]
      exact rps_snoc (rps_kp ry (((k4.mono sub).more).mut (List.mem_cons_self ..))) (r4.kp (Kp.refl.mut (List.mem_cons_self ..)))
  · have e : i = m := by omega
    subst e
    rw [List.take_of_length_le (by omega)] at ry
    exact .inl ⟨hstop H' kp, hd (.ref D) H' kp iv (rps_lst (rps_tail ry) nD ey)⟩
/-- over a row -/
theorem x_mapS (Iv : Hp → Prop) (h : Rp ex H v d) (s : d.seq ds) (hf : fs.length = ds.length) (hm : ds.length < 100000) (I0 : Iv H) (hL : ∀ H', Iv H' → Live ex H') (hI : ∀ H' D o, H D = none → Iv H' → Iv (upd H' D o))
    (hs : ∀ D (i : Nat) x e f H1 (N : V → Hp → Prop) (Nx : Hp → Prop), H D = none → ds[i]? = some e → fs[i]? = some f → Kp ex H H1 → Live (D :: ex) H1 → Iv H1 → Rp (D :: ex) H1 x e → (∀ y H4, Kp ex H1 H4 → Iv H4 → Rp (D :: ex) H4 y f → N y H4) →
      g x (wipe σ vs) H1 fun σ2 H2 => wipe σ2 vs = wipe σ vs ∧ tt σ2 H2 fun b H3 => if b = true then tx σ2 H3 N else Nx H3)
    (hd : ∀ v' H', Kp ex H H' → Iv H' → Rp ex H' v' (.lst fs) → Q v' H') :
    ∃ a', v = .ref a' ∧ (((∃ xs, SqL K H a' xs) ∧ rawC (Itl K a') g tt tx vs σ H Q) ∨ ((∃ xs, SqT K H a' xs) ∧ rawC (Itt K a') g tt tx vs σ H Q)) := by
  obtain ⟨a, xs, rfl, n, e, r⟩ := h.seqI s
  rcases e with e | e
  · refine ⟨a, rfl, .inr ⟨⟨xs, SqT.of e⟩, raw_map Iv (fun _ z => z) hf hm I0 hL hI (fun H' kp => ⟨xs, SqT.of (kp _ _ n e), by rw [r.1]; exact Nat.le_refl _⟩) (fun i H' c kp => ⟨xs, xs[i]'(by rw [r.1]; exact c), SqT.of (kp _ _ n e), List.getElem?_eq_getElem _⟩) (fun D i x f H1 H' N Nx hD c ef kp L iv y hN => ?_) hd⟩⟩
    obtain ⟨rfl, hx⟩ := y
    obtain ⟨e', ee, re⟩ := rps_at r (hx xs (SqT.of (kp _ _ n e)))
    exact hs D i x e' f _ N Nx hD ee ef kp L iv ((re.grow hD).kp kp.more) hN
  · refine ⟨a, rfl, .inl ⟨⟨xs, SqL.of e⟩, raw_map Iv (fun _ z => z) hf hm I0 hL hI (fun H' kp => ⟨xs, SqL.of (kp _ _ n e), by rw [r.1]; exact Nat.le_refl _⟩) (fun i H' c kp => ⟨xs, xs[i]'(by rw [r.1]; exact c), SqL.of (kp _ _ n e), List.getElem?_eq_getElem _⟩) (fun D i x f H1 H' N Nx hD c ef kp L iv y hN => ?_) hd⟩⟩
    obtain ⟨rfl, hx⟩ := y
    obtain ⟨e', ee, re⟩ := rps_at r (hx xs (SqL.of (kp _ _ n e)))
    exact hs D i x e' f _ N Nx hD ee ef kp L iv ((re.grow hD).kp kp.more) hN
/-- over a row; what is made keeps off eo -/
theorem x_mapO {eo : List Addr} (Iv : Hp → Prop) (sub : ∀ a, a ∈ ex → a ∈ eo) (h : Rp ex H v d) (s : d.seq ds) (hf : fs.length = ds.length) (hm : ds.length < 100000) (I0 : Iv H) (hL : ∀ H', Iv H' → Live eo H') (hI : ∀ H' D o, H D = none → Iv H' → Iv (upd H' D o))
    (hs : ∀ D (i : Nat) x e f H1 (N : V → Hp → Prop) (Nx : Hp → Prop), H D = none → ds[i]? = some e → fs[i]? = some f → Kp ex H H1 → Live (D :: eo) H1 → Iv H1 → Rp ex H1 x e → (∀ y H4, Kp ex H1 H4 → Iv H4 → Rp (D :: eo) H4 y f → N y H4) →
      g x (wipe σ vs) H1 fun σ2 H2 => wipe σ2 vs = wipe σ vs ∧ tt σ2 H2 fun b H3 => if b = true then tx σ2 H3 N else Nx H3)
    (hd : ∀ v' H', Kp ex H H' → Iv H' → Rp eo H' v' (.lst fs) → Q v' H') :
    ∃ a', v = .ref a' ∧ (((∃ xs, SqL K H a' xs) ∧ rawC (Itl K a') g tt tx vs σ H Q) ∨ ((∃ xs, SqT K H a' xs) ∧ rawC (Itt K a') g tt tx vs σ H Q)) := by
  obtain ⟨a, xs, rfl, n, e, r⟩ := h.seqI s
  rcases e with e | e
  · refine ⟨a, rfl, .inr ⟨⟨xs, SqT.of e⟩, raw_map Iv sub hf hm I0 hL hI (fun H' kp => ⟨xs, SqT.of (kp _ _ n e), by rw [r.1]; exact Nat.le_refl _⟩) (fun i H' c kp => ⟨xs, xs[i]'(by rw [r.1]; exact c), SqT.of (kp _ _ n e), List.getElem?_eq_getElem _⟩) (fun D i x f H1 H' N Nx hD c ef kp L iv y hN => ?_) hd⟩⟩
    obtain ⟨rfl, hx⟩ := y
    obtain ⟨e', ee, re⟩ := rps_at r (hx xs (SqT.of (kp _ _ n e)))
    exact hs D i x e' f _ N Nx hD ee ef kp L iv (re.kp kp) hN
  · refine ⟨a, rfl, .inl ⟨⟨xs, SqL.of e⟩, raw_map Iv sub hf hm I0 hL hI (fun H' kp => ⟨xs, SqL.of (kp _ _ n e), by rw [r.1]; exact Nat.le_refl _⟩) (fun i H' c kp => ⟨xs, xs[i]'(by rw [r.1]; exact c), SqL.of (kp _ _ n e), List.getElem?_eq_getElem _⟩) (fun D i x f H1 H' N Nx hD c ef kp L iv y hN => ?_) hd⟩⟩
    obtain ⟨rfl, hx⟩ := y
    obtain ⟨e', ee, re⟩ := rps_at r (hx xs (SqL.of (kp _ _ n e)))
    exact hs D i x e' f _ N Nx hD ee ef kp L iv (re.kp kp) hN
/-- a comprehension whose items are not told one by one -/
theorem raw_mapE {J : It} {eo : List Addr} (Iv : Hp → Prop) (sub : ∀ a, a ∈ ex → a ∈ eo) (G : Nat → Da → Prop) (hm : m < 100000) (I0 : Iv H) (hL : ∀ H', Iv H' → Live eo H') (hI : ∀ H' D o, H D = none → Iv H' → Iv (upd H' D o))
    (hstop : ∀ H', Kp ex H H' → J.stop m H') (hgo : ∀ i H', i < m → Kp ex H H' → J.go i H')
    (hs : ∀ D (i : Nat) x H1 H' (N : V → Hp → Prop) (Nx : Hp → Prop), H D = none → i < m → Kp ex H H1 → Live (D :: eo) H1 → Iv H1 → J.yld i H1 x H' → (∀ y H4 f, G i f → Kp ex H1 H4 → Iv H4 → Rp (D :: eo) H4 y f → N y H4) →
      g x (wipe σ vs) H' fun σ2 H2 => wipe σ2 vs = wipe σ vs ∧ tt σ2 H2 fun b H3 => if b = true then tx σ2 H3 N else Nx H3)
    (hd : ∀ v' H' fs, fs.length = m → (∀ i f, fs[i]? = some f → G i f) → Kp ex H H' → Iv H' → Rp eo H' v' (.lst fs) → Q v' H') : rawC J g tt tx vs σ H Q := by
  intro D hD
  have nD : D ∉ eo := (hL H I0).new hD
  have nE : D ∉ ex := fun z => nD (sub _ z)
  refine ⟨fun i k H' => k = m - i ∧ i ≤ m ∧ Kp ex H H' ∧ Iv H' ∧ ∃ ys fs, H' D = some (.lst ys) ∧ fs.length = i ∧ (∀ j f, fs[j]? = some f → G j f) ∧ Rps (D :: eo) H' ys fs, ⟨m, rfl, Nat.zero_le _, Kp.refl.new hD, hI _ _ _ hD I0, [], [], upd_same, rfl, (fun j f z => by cases z), Rps.nil⟩, ?_⟩
  rintro i k H' ⟨rfl, hi, kp, iv, ys, fs, ey, lf, gf, ry⟩
  by_cases c : i < m
  · refine .inr ⟨hgo i H' c kp, fun H4 => i + 1 ≤ m ∧ Kp ex H H4 ∧ Iv H4 ∧ ∃ ys fs, H4 D = some (.lst ys) ∧ fs.length = i + 1 ∧ (∀ j f, fs[j]? = some f → G j f) ∧ Rps (D :: eo) H4 ys fs, fun H4 q => ⟨m - (i + 1), by omega, rfl, q⟩, fun x H1 y => ?_⟩
    refine hs D i x H' H1 _ _ hD c kp ((hL _ iv).cons ey) iv y fun z H4 f gz k4 iv4 r4 => ⟨ys, k4 _ _ nE ey, szl ?_, c, (kp.trans k4).own hD, hI _ _ _ hD iv4, ys ++ [z], fs ++ [f], upd_same, by simp [lf], fun j e he => ?_, ?_⟩
    · rw [ry.1]; omega
    · by_cases q : j < fs.length
      · rw [List.getElem?_append_left q] at he
        exact gf j e he
      · rw [List.getElem?_append_right (by omega)] at he
        have e0 : j - fs.length = 0 := by
          have := (List.getElem?_eq_some_iff.mp he).1
          simp at this
          omega
        rw [e0] at he
        cases he
        have ej : j = i := by omega
        rw [ej]
        exact gz
    · exact rps_snoc (rps_kp ry (((k4.mono sub).more).mut (List.mem_cons_self ..))) (r4.kp (Kp.refl.mut (List.mem_cons_self ..)))
  · have e : i = m := by omega
    subst e
    exact .inl ⟨hstop H' kp, hd (.ref D) H' fs lf gf kp iv (rps_lst (rps_tail ry) nD ey)⟩
theorem x_mapE {eo : List Addr} (Iv : Hp → Prop) (sub : ∀ a, a ∈ ex → a ∈ eo) (G : Nat → Da → Prop) (h : Rp ex H v d) (s : d.seq ds) (hm : ds.length < 100000) (I0 : Iv H) (hL : ∀ H', Iv H' → Live eo H') (hI : ∀ H' D o, H D = none → Iv H' → Iv (upd H' D o))
    (hs : ∀ D (i : Nat) x e H1 (N : V → Hp → Prop) (Nx : Hp → Prop), H D = none → ds[i]? = some e → Kp ex H H1 → Live (D :: eo) H1 → Iv H1 → Rp ex H1 x e → (∀ y H4 f, G i f → Kp ex H1 H4 → Iv H4 → Rp (D :: eo) H4 y f → N y H4) →
      g x (wipe σ vs) H1 fun σ2 H2 => wipe σ2 vs = wipe σ vs ∧ tt σ2 H2 fun b H3 => if b = true then tx σ2 H3 N else Nx H3)
    (hd : ∀ v' H' fs, fs.length = ds.length → (∀ i f, fs[i]? = some f → G i f) → Kp ex H H' → Iv H' → Rp eo H' v' (.lst fs) → Q v' H') :
    ∃ a', v = .ref a' ∧ (((∃ xs, SqL K H a' xs) ∧ rawC (Itl K a') g tt tx vs σ H Q) ∨ ((∃ xs, SqT K H a' xs) ∧ rawC (Itt K a') g tt tx vs σ H Q)) := by
  obtain ⟨a, xs, rfl, n, e, r⟩ := h.seqI s
  rcases e with e | e
  · refine ⟨a, rfl, .inr ⟨⟨xs, SqT.of e⟩, raw_mapE Iv sub G hm I0 hL hI (fun H' kp => ⟨xs, SqT.of (kp _ _ n e), by rw [r.1]; exact Nat.le_refl _⟩) (fun i H' c kp => ⟨xs, xs[i]'(by rw [r.1]; exact c), SqT.of (kp _ _ n e), List.getElem?_eq_getElem _⟩) (fun D i x H1 H' N Nx hD c kp L iv y hN => ?_) hd⟩⟩
    obtain ⟨rfl, hx⟩ := y
    obtain ⟨e', ee, re⟩ := rps_at r (hx xs (SqT.of (kp _ _ n e)))
    exact hs D i x e' _ N Nx hD ee kp L iv (re.kp kp) hN
  · refine ⟨a, rfl, .inl ⟨⟨xs, SqL.of e⟩, raw_mapE Iv sub G hm I0 hL hI (fun H' kp => ⟨xs, SqL.of (kp _ _ n e), by rw [r.1]; exact Nat.le_refl _⟩) (fun i H' c kp => ⟨xs, xs[i]'(by rw [r.1]; exact c), SqL.of (kp _ _ n e), List.getElem?_eq_getElem _⟩) (fun D i x H1 H' N Nx hD c kp L iv y hN => ?_) hd⟩⟩
    obtain ⟨rfl, hx⟩ := y
    obtain ⟨e', ee, re⟩ := rps_at r (hx xs (SqL.of (kp _ _ n e)))
    exact hs D i x e' _ N Nx hD ee kp L iv (re.kp kp) hN
theorem of_all {α : Type} {F : α → Da} {G : α → Prop} : ∀ {fs : List Da} (_ : ∀ (i : Nat) f, fs[i]? = some f → ∃ p, f = F p ∧ G p), ∃ l : List α, fs = l.map F ∧ ∀ p, p ∈ l → G p
  | [], _ => ⟨[], rfl, fun p h => (nomatch h)⟩
  | f :: fs, h => by
    obtain ⟨p, e, gp⟩ := h 0 f rfl
    obtain ⟨l, e2, gl⟩ := of_all (fs := fs) fun i z hz => h (i + 1) z hz
    exact ⟨p :: l, by rw [List.map_cons, e, e2], fun q hq => by
      rcases List.mem_cons.mp hq with rfl | hq
      · exact gp
      · exact gl q hq⟩
/-- over range(m) -/
theorem x_mapN (Iv : Hp → Prop) (hf : fs.length = m) (hm : m < 100000) (I0 : Iv H) (hL : ∀ H', Iv H' → Live ex H') (hI : ∀ H' D o, H D = none → Iv H' → Iv (upd H' D o))
    (hs : ∀ D (i : Nat) f H1 (N : V → Hp → Prop) (Nx : Hp → Prop), H D = none → i < m → fs[i]? = some f → Kp ex H H1 → Live (D :: ex) H1 → Iv H1 → (∀ y H4, Kp ex H1 H4 → Iv H4 → Rp (D :: ex) H4 y f → N y H4) →
      g (.int (i : Int)) (wipe σ vs) H1 fun σ2 H2 => wipe σ2 vs = wipe σ vs ∧ tt σ2 H2 fun b H3 => if b = true then tx σ2 H3 N else Nx H3)
    (hd : ∀ v' H', Kp ex H H' → Iv H' → Rp ex H' v' (.lst fs) → Q v' H') : rawC (Itr 0 m) g tt tx vs σ H Q := by
  refine raw_map Iv (fun _ z => z) hf hm I0 hL hI (fun H' _ => Nat.le_refl _) (fun i H' c _ => c) (fun D i x f H1 H' N Nx hD c ef kp L iv y hN => ?_) hd
  obtain ⟨rfl, rfl⟩ := y
  rw [Int.zero_add]
  exact hs D i f _ N Nx hD c ef kp L iv hN
theorem x_lcZ {tr : TA} (q : tr σ H fun us H1 => ∃ a b xs ys t u, us = [.ref a, .ref b] ∧ SqB K t H1 a xs ∧ SqB K u H1 b ys ∧ rawC (Itz2 K t u a b) g tt tx vs σ H1 Q) : tLc (iZx K tr) g tt tx vs σ H Q := q
theorem x_forZ {tr : TA} {ts : TS} {n b c : L2.St → Hp → Prop} {r : VK} (q : tr σ H fun us H1 => ∃ a b' xs ys t u, us = [.ref a, .ref b'] ∧ SqB K t H1 a xs ∧ SqB K u H1 b' ys ∧ rawJ (Itz2 K t u a b') g ts ⟨n, r, b, c⟩ σ H1) : tFor (iZx K tr) g ts ⟨n, r, b, c⟩ σ H := q
/-- a row of data as zip takes it -/
theorem Rp.sqB (h : Rp ex H v d) (s : d.seq ds) : ∃ a xs t, v = .ref a ∧ a ∉ ex ∧ Rps ex H xs ds ∧ (∀ K : PySem.W.Frag, SqB K t H a xs) ∧ ∀ (K : PySem.W.Frag) H', Kp ex H H' → SqB K t H' a xs := by
  obtain ⟨a, xs, rfl, n, e, r⟩ := h.seqI s
  rcases e with e | e
  · exact ⟨a, xs, true, rfl, n, r, fun K => SqT.of e, fun K H' kp => SqT.of (kp _ _ n e)⟩
  · exact ⟨a, xs, false, rfl, n, r, fun K => SqL.of e, fun K H' kp => SqL.of (kp _ _ n e)⟩
/-- over zip of two rows of one length -/
theorem x_mapZ (Iv : Hp → Prop) (h1 : Rp ex H v d1) (s1 : d1.seq ds) (h2 : Rp ex H u d2) (s2 : d2.seq es) (hl : es.length = ds.length) (hf : fs.length = ds.length) (hm : ds.length < 100000) (I0 : Iv H) (hL : ∀ H', Iv H' → Live ex H') (hI : ∀ H' D o, H D = none → Iv H' → Iv (upd H' D o))
    (hI2 : ∀ H' D o, H' D = none → Iv H' → Iv (upd H' D o))
    (hs : ∀ D (i : Nat) x e e' f H1 (N : V → Hp → Prop) (Nx : Hp → Prop), H D = none → ds[i]? = some e → es[i]? = some e' → fs[i]? = some f → Kp ex H H1 → Live (D :: ex) H1 → Iv H1 → Rp (D :: ex) H1 x (.tup [e, e']) → (∀ y H4, Kp ex H1 H4 → Iv H4 → Rp (D :: ex) H4 y f → N y H4) →
      g x (wipe σ vs) H1 fun σ2 H2 => wipe σ2 vs = wipe σ vs ∧ tt σ2 H2 fun b H3 => if b = true then tx σ2 H3 N else Nx H3)
    (hd : ∀ v' H', Kp ex H H' → Iv H' → Rp ex H' v' (.lst fs) → Q v' H') :
    ∃ a b xs ys t u', [v, u] = [.ref a, .ref b] ∧ SqB K t H a xs ∧ SqB K u' H b ys ∧ rawC (Itz2 K t u' a b) g tt tx vs σ H Q := by
  obtain ⟨a, xs, t, rfl, na, ra, qa, ka⟩ := h1.sqB s1
  obtain ⟨b, ys, u', rfl, nb, rb, qb, kb⟩ := h2.sqB s2
  refine ⟨a, b, xs, ys, t, u', rfl, qa K, qb K, raw_map Iv (fun _ z => z) hf hm I0 hL hI (fun H' kp => ⟨xs, ys, ka K H' kp, kb K H' kp, .inl (by rw [ra.1]; exact Nat.le_refl _)⟩) (fun i H' c kp => ⟨xs, ys, xs[i]'(by rw [ra.1]; exact c), ys[i]'(by rw [rb.1, hl]; exact c), ka K H' kp, kb K H' kp, List.getElem?_eq_getElem _, List.getElem?_eq_getElem _⟩) (fun D i x f H1 H' N Nx hD c ef kp L iv y hN => ?_) hd⟩
  obtain ⟨T, x1, y1, rfl, hT, rfl, hx, hy⟩ := y
  obtain ⟨e, ee, re⟩ := rps_at ra (hx xs (ka K _ kp))
  obtain ⟨e', ee', re'⟩ := rps_at rb (hy ys (kb K _ kp))
  have s := Same.new (o := .tup [x1, y1]) (Same.refl H1) hT
  refine hs D i _ e e' f _ N Nx hD ee ee' ef (kp.same s) (L.same s) (hI2 _ _ _ hT iv) ?_ fun y H4 k4 iv4 r4 => hN y H4 ((Same.kp s).trans k4) iv4 r4
  exact rps_tup (Rps.cons (((re.grow hD).kp kp.more).same s) (Rps.cons (((re'.grow hD).kp kp.more).same s) Rps.nil)) (L.new hT) upd_same
/-- a loop over zip of two rows of one length; H0, a heap that knows them -/
theorem x_zipF {H0 : Hp} {ts : TS} {n b c : L2.St → Hp → Prop} {r : VK} (h1 : Rp ex H0 v d1) (s1 : d1.seq ds) (h2 : Rp ex H0 u d2) (s2 : d2.seq es) (hl : es.length = ds.length) (Pv : Nat → L2.St → Hp → Prop) (h0 : Pv 0 σ H) (hk : ∀ i σ H', Pv i σ H' → Kp ex H0 H' ∧ Live ex H')
    (hs : ∀ (i : Nat) x e e' σ H1 H', ds[i]? = some e → es[i]? = some e' → Pv i σ H1 → Same H1 H' → Rp ex H' x (.tup [e, e']) → g x σ H' fun σ2 H2 => ts ⟨Pv (i + 1), r, n, Pv (i + 1)⟩ σ2 H2)
    (hd : ∀ σ H, Pv ds.length σ H → n σ H) :
    ∃ a b' xs ys t u', [v, u] = [.ref a, .ref b'] ∧ SqB K t H a xs ∧ SqB K u' H b' ys ∧ rawJ (Itz2 K t u' a b') g ts ⟨n, r, b, c⟩ σ H := by
  obtain ⟨a, xs, t, rfl, na, ra, qa, ka⟩ := h1.sqB s1
  obtain ⟨b', ys, u', rfl, nb, rb, qb, kb⟩ := h2.sqB s2
  obtain ⟨kp0, _⟩ := hk 0 σ H h0
  refine ⟨a, b', xs, ys, t, u', rfl, ka K H kp0, kb K H kp0, fun i k σ H' => k = ds.length - i ∧ i ≤ ds.length ∧ Pv i σ H', ⟨_, rfl, Nat.zero_le _, h0⟩, ?_⟩
  rintro i k σ H' ⟨rfl, hi, p⟩
  obtain ⟨kp, L⟩ := hk i σ H' p
  by_cases c : i < ds.length
  · refine .inr ⟨⟨xs, ys, xs[i]'(by rw [ra.1]; exact c), ys[i]'(by rw [rb.1, hl]; exact c), ka K H' kp, kb K H' kp, List.getElem?_eq_getElem _, List.getElem?_eq_getElem _⟩, Pv (i + 1), fun σ' H2 p' => ⟨ds.length - (i + 1), by omega, rfl, c, p'⟩, fun x H2 y => ?_⟩
    obtain ⟨T, x1, y1, rfl, hT, rfl, hx, hy⟩ := y
    obtain ⟨e, ee, re⟩ := rps_at ra (hx xs (ka K _ kp))
    obtain ⟨e', ee', re'⟩ := rps_at rb (hy ys (kb K _ kp))
    have s := Same.new (o := .tup [x1, y1]) (Same.refl H') hT
    exact hs i _ e e' σ H' _ ee ee' p s (rps_tup (Rps.cons ((re.kp kp).same s) (Rps.cons ((re'.kp kp).same s) Rps.nil)) (L.new hT) upd_same)
  · have e : i = ds.length := by omega
    subst e
    exact .inl ⟨⟨xs, ys, ka K H' kp, kb K H' kp, .inl (by rw [ra.1]; exact Nat.le_refl _)⟩, hd σ H' p⟩
/-- a loop over a row -/
theorem x_loopS {H0 : Hp} {ts : TS} {n b c : L2.St → Hp → Prop} {r : VK} (h : Rp ex H0 v d) (s : d.seq ds) (Pv : Nat → L2.St → Hp → Prop) (h0 : Pv 0 σ H) (hk : ∀ i σ H', Pv i σ H' → Kp ex H0 H')
    (hs : ∀ (i : Nat) x e σ H1, ds[i]? = some e → Pv i σ H1 → Rp ex H1 x e → Rp ex H0 x e → g x σ H1 fun σ2 H2 => ts ⟨Pv (i + 1), r, n, Pv (i + 1)⟩ σ2 H2) (hd : ∀ σ H, Pv ds.length σ H → n σ H) :
    ∃ a', v = .ref a' ∧ (((∃ xs, SqL K H a' xs) ∧ rawJ (Itl K a') g ts ⟨n, r, b, c⟩ σ H) ∨ ((∃ xs, SqT K H a' xs) ∧ rawJ (Itt K a') g ts ⟨n, r, b, c⟩ σ H)) := by
  obtain ⟨a, xs, rfl, na, e, ra⟩ := h.seqI s
  have kp0 := hk 0 σ H h0
  rcases e with e | e
  · refine x_loopT (SqT.of (kp0 _ _ na e)) Pv h0 (fun i σ H' _ p => SqT.of (hk i σ H' p _ _ na e)) (fun i x σ H1 hx p => ?_) (by rw [ra.1]; exact hd)
    obtain ⟨f, ef, rf⟩ := rps_at ra hx
    exact hs i x f σ H1 ef p (rf.kp (hk i σ H1 p)) rf
  · refine x_loopL (SqL.of (kp0 _ _ na e)) Pv h0 (fun i σ H' _ p => SqL.of (hk i σ H' p _ _ na e)) (fun i x σ H1 hx p => ?_) (by rw [ra.1]; exact hd)
    obtain ⟨f, ef, rf⟩ := rps_at ra hx
    exact hs i x f σ H1 ef p (rf.kp (hk i σ H1 p)) rf
/-- taken apart -/
theorem x_gRp {gs : TGs} {n : L2.St → Hp → Prop} (h : Rp ex H v d) (s : d.seq ds) (e : ds.length = m) (q : ∀ xs, Rps ex H xs ds → gs xs σ H n) : gX K m gs v σ H n := by
  obtain ⟨a, xs, rfl, na, e', r⟩ := h.seqI s
  exact x_gX e' (by rw [r.1, e]) (q xs r)
theorem rps_two {xs : List V} {i j : Int} (r : Rps ex H xs [.int i, .int j]) : xs = [.int i, .int j] := by
  obtain ⟨l, q⟩ := r
  match xs, l, q with
  | [a, b], _, q =>
    rw [(q 0 a (.int i) rfl rfl).intI, (q 1 b (.int j) rfl rfl).intI]
theorem x_gPair {gs : TGs} {i j : Int} {n : L2.St → Hp → Prop} (h : Rp ex H v d) (s : d.seq [.int i, .int j]) (q : gs [.int i, .int j] σ H n) : gX K 2 gs v σ H n :=
  x_gRp h s rfl fun xs r => by rw [rps_two r]; exact q
theorem rps_2 {xs : List V} (r : Rps ex H xs [d1, d2]) : ∃ x y, xs = [x, y] ∧ Rp ex H x d1 ∧ Rp ex H y d2 := by
  obtain ⟨l, q⟩ := r
  match xs, l, q with
  | [a, b], _, q => exact ⟨a, b, rfl, q 0 a d1 rfl rfl, q 1 b d2 rfl rfl⟩
theorem mx2 (i j : Int) : nuMax2 (.int i) (.int j) = some (.int (if j > i then j else i)) := by
  show some (if decide (i < j) = true then V.int j else V.int i) = _
  by_cases c : i < j
  · rw [decide_eq_true c, if_pos rfl, if_pos c]
  · rw [decide_eq_false c, if_neg (by decide), if_neg c]
theorem nuMax3_int (i j k : Int) : nuMax3 (.int i) (.int j) (.int k) = some (.int (if k > (if j > i then j else i) then k else if j > i then j else i)) := by
  unfold nuMax3
  rw [mx2]
  exact mx2 _ _
theorem x_slFromL {k : Nat} {z : Int} (h : Rp ex H v (.lst ds)) (hz : z = (k : Int)) (L : Live ex H) (q : ∀ v' H', Same H H' → Rp ex H' v' (.lst (ds.drop k)) → Q v' H') : rSlX K v (some z) none H Q := by
  subst hz
  obtain ⟨a, xs, rfl, n, e, r⟩ := h.lstI
  have r2 : Rps ex H (cutV xs (some (k : Int)) none) (ds.drop k) := by rw [cut_from]; exact rps_drop r
  exact x_slL (SqL.of e) fun p hp => q _ _ (Same.new (Same.refl _) hp) (rps_lst (rps_same r2 (Same.new (Same.refl _) hp)) (L.new hp) upd_same)
/-- three numbers' greatest -/
theorem x_max3 {i j k : Int} (q : Q (.int (if k > (if j > i then j else i) then k else if j > i then j else i)) H) : rMx3 [.int i, .int j, .int k] H Q := ⟨.int i, .int j, .int k, _, rfl, nuMax3_int i j k, q⟩
/-! least and greatest of a row -/
theorem ints_of {xs : List V} {ns : List Int} (r : Rps ex H xs (ns.map Da.int)) : xs = ns.map V.int := by
  refine List.ext_getElem? fun i => ?_
  by_cases c : i < ns.length
  · have h2 : (ns.map Da.int)[i]? = some (.int ns[i]) := by rw [List.getElem?_map, List.getElem?_eq_getElem c]; rfl
    obtain ⟨x, hx, rx⟩ := rps_get r h2
    rw [hx, rx.intI, List.getElem?_map, List.getElem?_eq_getElem c]; rfl
  · rw [List.getElem?_eq_none (by rw [r.1, List.length_map]; omega), List.getElem?_eq_none (by rw [List.length_map]; omega)]
noncomputable def mnL (ns : List Int) : Int := open Classical in if h : ∃ m, m ∈ ns ∧ ∀ y, y ∈ ns → m ≤ y then h.choose else 0
noncomputable def mxL (ns : List Int) : Int := open Classical in if h : ∃ m, m ∈ ns ∧ ∀ y, y ∈ ns → y ≤ m then h.choose else 0
theorem mnL_eq {ns : List Int} {m : Int} (h1 : m ∈ ns) (h2 : ∀ y, y ∈ ns → m ≤ y) : m = mnL ns := by
  have h : ∃ m, m ∈ ns ∧ ∀ y, y ∈ ns → m ≤ y := ⟨m, h1, h2⟩
  unfold mnL
  rw [dif_pos h]
  exact Int.le_antisymm (h2 _ h.choose_spec.1) (h.choose_spec.2 _ h1)
theorem mxL_eq {ns : List Int} {m : Int} (h1 : m ∈ ns) (h2 : ∀ y, y ∈ ns → y ≤ m) : m = mxL ns := by
  have h : ∃ m, m ∈ ns ∧ ∀ y, y ∈ ns → y ≤ m := ⟨m, h1, h2⟩
  unfold mxL
  rw [dif_pos h]
  exact Int.le_antisymm (h.choose_spec.2 _ h1) (h2 _ h.choose_spec.1)
theorem x_minL {ns : List Int} (h : Rp ex H v (.lst (ns.map Da.int))) (h0 : 0 < ns.length) (q : Q (.int (mnL ns)) H) : rMin K [v] H Q := by
  obtain ⟨a, xs, rfl, na, e, r⟩ := h.lstI
  rw [ints_of r] at e
  exact ⟨a, ns, rfl, SqL.of e, h0, fun m h1 h2 => by rw [mnL_eq h1 h2]; exact q⟩
theorem x_maxL {ns : List Int} (h : Rp ex H v (.lst (ns.map Da.int))) (h0 : 0 < ns.length) (q : Q (.int (mxL ns)) H) : rMax K [v] H Q := by
  obtain ⟨a, xs, rfl, na, e, r⟩ := h.lstI
  rw [ints_of r] at e
  exact ⟨a, ns, rfl, SqL.of e, h0, fun m h1 h2 => by rw [mxL_eq h1 h2]; exact q⟩
theorem bls_of {xs : List V} {ns : List Bool} (r : Rps ex H xs (ns.map Da.bl)) : xs = ns.map V.bl := by
  refine List.ext_getElem? fun i => ?_
  by_cases c : i < ns.length
  · have h2 : (ns.map Da.bl)[i]? = some (.bl ns[i]) := by rw [List.getElem?_map, List.getElem?_eq_getElem c]; rfl
    obtain ⟨x, hx, rx⟩ := rps_get r h2
    rw [hx, rx.blI, List.getElem?_map, List.getElem?_eq_getElem c]; rfl
  · rw [List.getElem?_eq_none (by rw [r.1, List.length_map]; omega), List.getElem?_eq_none (by rw [List.length_map]; omega)]
theorem x_allR {ns : List Bool} (h : Rp ex H v (.lst (ns.map Da.bl))) (q : Q (.bl (ns.all id)) H) : rAll K [v] H Q := by
  obtain ⟨a, xs, rfl, na, e, r⟩ := h.lstI
  rw [bls_of r] at e
  exact x_allB ns e q
theorem x_tupR (h : Rp ex H v (.lst ds)) (L : Live ex H) (q : ∀ v' H', Same H H' → Rp ex H' v' (.tup ds) → Q v' H') : rTupOf K [v] H Q := by
  obtain ⟨a, xs, rfl, na, e, r⟩ := h.lstI
  exact x_tupL (SqL.of e) fun p hp => q _ _ (Same.new (Same.refl _) hp) (rps_tup (rps_same r (Same.new (Same.refl _) hp)) (L.new hp) upd_same)
end
end Bx
namespace Bx
open PySem L2
local macro_rules | `(tactic| walk_at "st") => `(tactic| first
  | (with_reducible refine x_seq ?_)
  | (with_reducible refine x_asg ?_)
  | (with_reducible refine x_ret ?_)
  | (with_reducible refine x_drop ?_)
  | (with_reducible refine x_ifS ?_)
  | (with_reducible refine x_next ?_)
  | (with_reducible refine x_gName ?_)
  | ((with_reducible refine x_var (v := ?v) ?hv ?qv); (case hv => rfl))
  | (with_reducible refine x_c ?_)
  | (with_reducible refine x_op ?_)
  | (with_reducible refine x_un ?_)
  | (with_reducible refine x_sub ?_)
  | (with_reducible refine x_lt ?_)
  | (with_reducible refine x_le ?_)
  | (with_reducible refine x_gt ?_)
  | (with_reducible refine x_ge ?_)
  | (with_reducible refine x_neg ?_)
  | (with_reducible refine x_isN ?_)
  | (with_reducible refine x_notN ?_)
  | (with_reducible refine x_abs ?_)
  | (with_reducible refine x_addI ?_)
  | (with_reducible refine x_eqI ?_)
  | (with_reducible refine x_neI ?_)
  | (with_reducible refine x_test ?_)
  | (with_reducible refine x_tB ?_)
  | (with_reducible refine x_isB ?_)
  | (with_reducible refine x_and ?_)
  | (with_reducible refine x_or ?_)
  | (with_reducible refine x_not ?_)
  | (with_reducible refine x_andV ?_)
  | (with_reducible refine x_orV ?_)
  | (with_reducible refine x_notV ?_)
  | (with_reducible refine x_chain ?_)
  | (with_reducible refine x_ifE ?_)
  | (with_reducible refine x_cons ?_)
  | (with_reducible refine x_nil ?_)
  | (with_reducible refine x_tup ?_)
  | (with_reducible refine x_lst ?_)
  | (with_reducible refine x_cb ?_)
  | (with_reducible refine x_call ?_)
  | (with_reducible refine x_callK ?_)
  | (with_reducible refine x_callS ?_)
  | (with_reducible refine x_callSK ?_)
  | (with_reducible refine x_sl ?_)
  | (with_reducible refine x_no ?_)
  | (with_reducible refine x_part ?_)
  | (with_reducible refine x_exI ?_)
  | (with_reducible refine x_bm ?_)
  | (with_reducible refine x_gSub ?_)
  | (with_reducible refine x_gCons ?_)
  | (with_reducible refine x_gNil ?_)
  | (with_reducible refine x_iteT ?_)
  | (with_reducible refine x_iteF ?_)
  | (with_reducible refine x_iteNT ?_)
  | (with_reducible refine x_iteNF ?_)
  | (with_reducible refine x_int1 ?_)
  | (with_reducible refine x_max2 ?_)
  | (with_reducible refine x_min2 ?_)
  | (with_reducible refine x_forX ?_)
  | (with_reducible refine x_forR ?_)
  | (with_reducible refine x_lcX ?_)
  | (with_reducible refine x_lcR ?_)
  | (with_reducible refine x_tYes ?_)
  | (with_reducible refine x_forZ ?_)
  | (with_reducible refine x_lcZ ?_)
  | (with_reducible refine x_max3 ?_)
  | (with_reducible refine x_brk ?_))
local macro_rules | `(tactic| walk_at "sts") => `(tactic| repeat (walk_at "st"))
local macro_rules | `(tactic| walk_at "isa") => `(tactic| first | rfl | (dsimp only [Da.isa]; decide))
local macro_rules | `(tactic| walk_at "rp") => `(tactic| first
  | assumption
  | exact Rp.int _ | exact Rp.non | exact Rp.bl _ | exact Rp.str _
  | ((refine Rp.same (H := ?Ha) ?ra ?rb); (case rb => assumption); (case ra => walk_at "rp"))
  | ((refine Rp.kp (H := ?Ha) ?ra ?rb); (case rb => assumption); (case ra => walk_at "rp")))
local macro_rules | `(tactic| walk_at "rps") => `(tactic| first
  | exact Rps.nil
  | ((refine Rps.cons ?ra ?rb); (case ra => walk_at "rp"); (case rb => walk_at "rps")))
local macro_rules | `(tactic| walk_at "wd") => `(tactic| first
  | assumption
  | ((refine Wd.same (H := ?Ha) ?ra ?rb); (case rb => assumption); (case ra => walk_at "wd")))
local macro_rules | `(tactic| walk_at "len") => `(tactic| first | exact Nat.le_of_ble_eq_true rfl | (simp; done) | (simp; omega))

def top (i : Nat) : Stmt := PySem.Challenge.pw_boundstead_k84_boxes_told_apart.main.body.getD i (.Pass ⟨0, 0, 0, 0⟩)
abbrev s_is_integer : Stmt := top 3
abbrev N_is_integer : List Str := ["value"]
theorem sc_is_integer : FnScope N_is_integer ["value"] (defScope s_is_integer) := ⟨rfl, rfl, rfl, by decide +kernel, rfl, by decide +kernel, by decide +kernel⟩
abbrev s_is_sequence : Stmt := top 4
abbrev N_is_sequence : List Str := ["value"]
theorem sc_is_sequence : FnScope N_is_sequence ["value"] (defScope s_is_sequence) := ⟨rfl, rfl, rfl, by decide +kernel, rfl, by decide +kernel, by decide +kernel⟩
abbrev s_is_within : Stmt := top 5
abbrev N_is_within : List Str := ["value", "least", "most"]
theorem sc_is_within : FnScope N_is_within ["value", "least", "most"] (defScope s_is_within) := ⟨rfl, rfl, rfl, by decide +kernel, rfl, by decide +kernel, by decide +kernel⟩
abbrev s_is_coordinate : Stmt := top 6
abbrev N_is_coordinate : List Str := ["value"]
theorem sc_is_coordinate : FnScope N_is_coordinate ["value"] (defScope s_is_coordinate) := ⟨rfl, rfl, rfl, by decide +kernel, rfl, by decide +kernel, by decide +kernel⟩
abbrev s_is_pair : Stmt := top 8
abbrev N_is_pair : List Str := ["value", "low", "high"]
theorem sc_is_pair : FnScope N_is_pair ["value"] (defScope s_is_pair) := ⟨rfl, rfl, rfl, by decide +kernel, rfl, by decide +kernel, by decide +kernel⟩
abbrev s_is_box : Stmt := top 9
abbrev N_is_box : List Str := ["value", "pair"]
theorem sc_is_box : FnScope N_is_box ["value"] (defScope s_is_box) := ⟨rfl, rfl, rfl, by decide +kernel, rfl, by decide +kernel, by decide +kernel⟩
abbrev s__law_so : Stmt := top 11
abbrev N__law_so : List Str := ["found", "meant", "k"]
theorem sc__law_so : FnScope N__law_so ["found", "meant"] (defScope s__law_so) := ⟨rfl, rfl, rfl, by decide +kernel, rfl, by decide +kernel, by decide +kernel⟩
abbrev s__law_numbers : Stmt := top 12
abbrev N__law_numbers : List Str := ["script", "row", "cell", "left", "k", "mixed"]
theorem sc__law_numbers : FnScope N__law_numbers ["script"] (defScope s__law_numbers) := ⟨rfl, rfl, rfl, by decide +kernel, rfl, by decide +kernel, by decide +kernel⟩
abbrev s__law_draw : Stmt := top 13
abbrev N__law_draw : List Str := ["row", "at", "limit", "mixed"]
theorem sc__law_draw : FnScope N__law_draw ["row", "at", "limit"] (defScope s__law_draw) := ⟨rfl, rfl, rfl, by decide +kernel, rfl, by decide +kernel, by decide +kernel⟩
abbrev s__law_take : Stmt := top 14
abbrev N__law_take : List Str := ["row", "spot", "limit"]
theorem sc__law_take : FnScope N__law_take ["row", "spot", "limit"] (defScope s__law_take) := ⟨rfl, rfl, rfl, by decide +kernel, rfl, by decide +kernel, by decide +kernel⟩
abbrev s__law_wide : Stmt := top 15
abbrev N__law_wide : List Str := ["row", "spot", "limit", "first", "second", "third"]
theorem sc__law_wide : FnScope N__law_wide ["row", "spot", "limit"] (defScope s__law_wide) := ⟨rfl, rfl, rfl, by decide +kernel, rfl, by decide +kernel, by decide +kernel⟩
abbrev s__law_clip : Stmt := top 16
abbrev N__law_clip : List Str := ["number"]
theorem sc__law_clip : FnScope N__law_clip ["number"] (defScope s__law_clip) := ⟨rfl, rfl, rfl, by decide +kernel, rfl, by decide +kernel, by decide +kernel⟩
abbrev s__law_middle : Stmt := top 17
abbrev N__law_middle : List Str := ["row", "spot", "axes", "style", "made", "k", "far"]
theorem sc__law_middle : FnScope N__law_middle ["row", "spot", "axes", "style"] (defScope s__law_middle) := ⟨rfl, rfl, rfl, by decide +kernel, rfl, by decide +kernel, by decide +kernel⟩
abbrev s__law_extent : Stmt := top 18
abbrev N__law_extent : List Str := ["row", "spot", "style"]
theorem sc__law_extent : FnScope N__law_extent ["row", "spot", "style"] (defScope s__law_extent) := ⟨rfl, rfl, rfl, by decide +kernel, rfl, by decide +kernel, by decide +kernel⟩
abbrev s__law_box : Stmt := top 19
abbrev N__law_box : List Str := ["row", "spot", "style", "middle", "made", "k", "low"]
theorem sc__law_box : FnScope N__law_box ["row", "spot", "style", "middle"] (defScope s__law_box) := ⟨rfl, rfl, rfl, by decide +kernel, rfl, by decide +kernel, by decide +kernel⟩
abbrev s__law_style : Stmt := top 20
abbrev N__law_style : List Str := ["row", "spot"]
theorem sc__law_style : FnScope N__law_style ["row", "spot"] (defScope s__law_style) := ⟨rfl, rfl, rfl, by decide +kernel, rfl, by decide +kernel, by decide +kernel⟩
abbrev s__law_listed : Stmt := top 21
abbrev N__law_listed : List Str := ["value", "one"]
theorem sc__law_listed : FnScope N__law_listed ["value"] (defScope s__law_listed) := ⟨rfl, rfl, rfl, by decide +kernel, rfl, by decide +kernel, by decide +kernel⟩
abbrev s__law_tupled : Stmt := top 22
abbrev N__law_tupled : List Str := ["value", "one"]
theorem sc__law_tupled : FnScope N__law_tupled ["value"] (defScope s__law_tupled) := ⟨rfl, rfl, rfl, by decide +kernel, rfl, by decide +kernel, by decide +kernel⟩
abbrev s__law_handed : Stmt := top 23
abbrev N__law_handed : List Str := ["row", "spot", "value"]
theorem sc__law_handed : FnScope N__law_handed ["row", "spot", "value"] (defScope s__law_handed) := ⟨rfl, rfl, rfl, by decide +kernel, rfl, by decide +kernel, by decide +kernel⟩
abbrev s_law : Stmt := top 24
abbrev N_law : List Str := ["script", "row", "spot", "again", "axes", "style", "box", "handed", "at", "low", "bad", "spoilt"]
theorem sc_law : FnScope N_law ["script"] (defScope s_law) := ⟨rfl, rfl, rfl, by decide +kernel, rfl, by decide +kernel, by decide +kernel⟩
structure Txt (K : PySem.W.Frag) (mg : Str → Option Value) (tk_COORDINATE_LIMIT : Tok) (tk_MOST_AXES : Tok) : Prop where
  c_COORDINATE_LIMIT : mg "COORDINATE_LIMIT" = some (.int 1000000 tk_COORDINATE_LIMIT)
  c_MOST_AXES : mg "MOST_AXES" = some (.int 4 tk_MOST_AXES)
  b_all : mg "all" = none
  b_bool : mg "bool" = none
  b_int : mg "int" = none
  b_isinstance : mg "isinstance" = none
  b_len : mg "len" = none
  b_list : mg "list" = none
  b_max : mg "max" = none
  b_min : mg "min" = none
  b_range : mg "range" = none
  b_str : mg "str" = none
  b_tuple : mg "tuple" = none
section
variable {P : Program} {w : World} {K : PySem.W.Frag} {mg : Str → Option Value} {base : Heap}  {tk_COORDINATE_LIMIT : Tok} {tk_MOST_AXES : Tok}
def t_is_integer (K : PySem.W.Frag) : TS := (tRet (tAndV (tCB (rIsi K) (tCons (tVar 0) (tCons (tC (.ty "int")) tNil))) (tNotV (tCB (rIsi K) (tCons (tVar 0) (tCons (tC (.ty "bool")) tNil))))))
theorem d_is_integer {E : XK} {f : Addr} {A : Around} {outer : List Env} {s : Shared} {H : Hp} {cdv : Value} (hr : Room 0 (A.deeper (PyProof.Rows.envOfC "is_integer" (defScope s_is_integer) s.heap.objs.size f cdv))) (T : Txt K mg tk_COORDINATE_LIMIT tk_MOST_AXES)  :
    PSs (cxOf CX0 P w K mg base N_is_integer "is_integer" (defScope s_is_integer) f cdv A outer s H E).nox (defBody s_is_integer) (t_is_integer K) :=
  (pss_one (ps_ret (pe_and (pe_callB call_isi (by rfl) T.b_isinstance (by decide +kernel) (pa_cons (pv 0) (pa_cons (pe_bltn (v := .ty "int") (by rfl) T.b_int (by decide +kernel) rfl) pa_nil))) (pe_one (pe_not (pe_callB call_isi (by rfl) T.b_isinstance (by decide +kernel) (pa_cons (pv 0) (pa_cons (pe_bltn (v := .ty "bool") (by rfl) T.b_bool (by decide +kernel) rfl) pa_nil))))))))

def t_is_sequence (K : PySem.W.Frag) : TS := (tRet (tCB (rIsiT K) (tCons (tVar 0) (tCons (tTup (tCons (tC (.ty "list")) (tCons (tC (.ty "tuple")) tNil))) tNil))))
theorem d_is_sequence {E : XK} {f : Addr} {A : Around} {outer : List Env} {s : Shared} {H : Hp} {cdv : Value} (hr : Room 0 (A.deeper (PyProof.Rows.envOfC "is_sequence" (defScope s_is_sequence) s.heap.objs.size f cdv))) (T : Txt K mg tk_COORDINATE_LIMIT tk_MOST_AXES)  :
    PSs (cxOf CX0 P w K mg base N_is_sequence "is_sequence" (defScope s_is_sequence) f cdv A outer s H E).nox (defBody s_is_sequence) (t_is_sequence K) :=
  (pss_one (ps_ret (pe_callB call_isiT (by rfl) T.b_isinstance (by decide +kernel) (pa_cons (pv 0) (pa_cons (pe_tup (pa_cons (pe_bltn (v := .ty "list") (by rfl) T.b_list (by decide +kernel) rfl) (pa_cons (pe_bltn (v := .ty "tuple") (by rfl) T.b_tuple (by decide +kernel) rfl) pa_nil))) pa_nil)))))

def t_is_within (K : PySem.W.Frag) (sp_is_integer_ : Sp) : TS := (tRet (tAndV (tCallO sp_is_integer_ (tCons (tVar 0) tNil)) (tChain rLe rLe (tVar 1) (tVar 0) (tVar 2))))
theorem d_is_within {sp_is_integer_ : Sp} {E : XK} {f : Addr} {A : Around} {outer : List Env} {s : Shared} {H : Hp} {cdv : Value} (hr : Room 1 (A.deeper (PyProof.Rows.envOfC "is_within" (defScope s_is_within) s.heap.objs.size f cdv))) (T : Txt K mg tk_COORDINATE_LIMIT tk_MOST_AXES) (O_is_integer : Ok P w K mg base 1 "is_integer" ["value"] sp_is_integer_) :
    PSs (cxOf CX0 P w K mg base N_is_within "is_within" (defScope s_is_within) f cdv A outer s H E).nox (defBody s_is_within) (t_is_within K sp_is_integer_) :=
  (pss_one (ps_ret (pe_and (pe_cO O_is_integer (hr.mono (by decide)) rfl (pa_cons (pv 0) pa_nil)) (pe_one (pe_chain o_le o_le (pv 1) (pv 0) (pv 2))))))

def t_is_coordinate (K : PySem.W.Frag) (sp_is_within_ : Sp) : TS := (tRet (tCallO sp_is_within_ (tCons (tVar 0) (tCons (tUn rNeg (tC (.int 1000000))) (tCons (tC (.int 1000000)) tNil)))))
theorem d_is_coordinate {sp_is_within_ : Sp} {E : XK} {f : Addr} {A : Around} {outer : List Env} {s : Shared} {H : Hp} {cdv : Value} (hr : Room 2 (A.deeper (PyProof.Rows.envOfC "is_coordinate" (defScope s_is_coordinate) s.heap.objs.size f cdv))) (T : Txt K mg tk_COORDINATE_LIMIT tk_MOST_AXES) (O_is_within : Ok P w K mg base 2 "is_within" ["value", "least", "most"] sp_is_within_) :
    PSs (cxOf CX0 P w K mg base N_is_coordinate "is_coordinate" (defScope s_is_coordinate) f cdv A outer s H E).nox (defBody s_is_coordinate) (t_is_coordinate K sp_is_within_) :=
  (pss_one (ps_ret (pe_cO O_is_within (hr.mono (by decide)) rfl (pa_cons (pv 0) (pa_cons (pe_un u_neg (pe_glob rfl T.c_COORDINATE_LIMIT ⟨_, rfl⟩)) (pa_cons (pe_glob rfl T.c_COORDINATE_LIMIT ⟨_, rfl⟩) pa_nil))))))

def t_is_pair (K : PySem.W.Frag) (sp_is_coordinate_ : Sp) (sp_is_sequence_ : Sp) : TS := (tSeq (tIfS (tOr (tNot (tB (tCallO sp_is_sequence_ (tCons (tVar 0) tNil)))) (tTest (tOp (rNeX K) (tCB (rLen K) (tCons (tVar 0) tNil)) (tC (.int 2))))) (tRet (tC (.bl false))) tNext)
    (tSeq (tAsg (tVar 0) (gX K 2 (gCons (gName 1) (gCons (gName 2) gNil))))
    (tRet (tAndV (tCallO sp_is_coordinate_ (tCons (tVar 1) tNil)) (tAndV (tCallO sp_is_coordinate_ (tCons (tVar 2) tNil)) (tOp rLe (tVar 1) (tVar 2)))))))
theorem d_is_pair {sp_is_coordinate_ : Sp} {sp_is_sequence_ : Sp} {E : XK} {f : Addr} {A : Around} {outer : List Env} {s : Shared} {H : Hp} {cdv : Value} (hr : Room 3 (A.deeper (PyProof.Rows.envOfC "is_pair" (defScope s_is_pair) s.heap.objs.size f cdv))) (T : Txt K mg tk_COORDINATE_LIMIT tk_MOST_AXES) (O_is_coordinate : Ok P w K mg base 3 "is_coordinate" ["value"] sp_is_coordinate_) (O_is_sequence : Ok P w K mg base 1 "is_sequence" ["value"] sp_is_sequence_) :
    PSs (cxOf CX0 P w K mg base N_is_pair "is_pair" (defScope s_is_pair) f cdv A outer s H E).nox (defBody s_is_pair) (t_is_pair K sp_is_coordinate_ sp_is_sequence_) :=
  (pss_cons (ps_if (PW.pt (pw_or (pt_not (pt_val (pe_cO O_is_sequence (hr.mono (by decide)) rfl (pa_cons (pv 0) pa_nil)))) (pw_or1 (pt_cmpR (op_neX hr.units) (pe_callB c_len (by rfl) T.b_len (by decide +kernel) (pa_cons (pv 0) pa_nil)) pe_int (nomark _))))) (pss_one (ps_ret pe_bl)) pss_nil)
    (pss_cons (ps_asg (pv 0) (pg_X rfl (pgs_cons (pg_name (i := 1) sc_is_pair.nd rfl (Or.inl rfl)) (pgs_cons (pg_name (i := 2) sc_is_pair.nd rfl (Or.inl rfl)) pgs_nil))))
    (pss_one (ps_ret (pe_and (pe_cO O_is_coordinate (hr.mono (by decide)) rfl (pa_cons (pv 1) pa_nil)) (pe_and (pe_cO O_is_coordinate (hr.mono (by decide)) rfl (pa_cons (pv 2) pa_nil)) (pe_one (pe_cmpR o_le (pv 1) (pv 2) (nomark _)))))))))

def t_is_box (K : PySem.W.Frag) (sp_is_pair_ : Sp) (sp_is_sequence_ : Sp) : TS := (tSeq (tIfS (tOr (tNot (tB (tCallO sp_is_sequence_ (tCons (tVar 0) tNil)))) (tNot (tTest (tChain rLe rLe (tC (.int 1)) (tCB (rLen K) (tCons (tVar 0) tNil)) (tC (.int 4)))))) (tRet (tC (.bl false))) tNext)
    (tRet (tCB (rAll K) (tCons (tLc (iX K (tVar 0)) (gName 1) tYes (tCallO sp_is_pair_ (tCons (tVar 1) tNil)) [1]) tNil))))
theorem d_is_box {sp_is_pair_ : Sp} {sp_is_sequence_ : Sp} {E : XK} {f : Addr} {A : Around} {outer : List Env} {s : Shared} {H : Hp} {cdv : Value} (hr : Room 4 (A.deeper (PyProof.Rows.envOfC "is_box" (defScope s_is_box) s.heap.objs.size f cdv))) (T : Txt K mg tk_COORDINATE_LIMIT tk_MOST_AXES) (O_is_pair : Ok P w K mg base 4 "is_pair" ["value"] sp_is_pair_) (O_is_sequence : Ok P w K mg base 1 "is_sequence" ["value"] sp_is_sequence_) :
    PSs (cxOf CX0 P w K mg base N_is_box "is_box" (defScope s_is_box) f cdv A outer s H E).nox (defBody s_is_box) (t_is_box K sp_is_pair_ sp_is_sequence_) :=
  (pss_cons (ps_if (PW.pt (pw_or (pt_not (pt_val (pe_cO O_is_sequence (hr.mono (by decide)) rfl (pa_cons (pv 0) pa_nil)))) (pw_or1 (pt_not (pt_chain o_le o_le pe_int (pe_callB c_len (by rfl) T.b_len (by decide +kernel) (pa_cons (pv 0) pa_nil)) (pe_glob rfl T.c_MOST_AXES ⟨_, rfl⟩)))))) (pss_one (ps_ret pe_bl)) pss_nil)
    (pss_one (ps_ret (pe_callB (cr_all rfl) (by rfl) T.b_all (by decide +kernel) (pa_cons (pe_lc (own := [("pair", 1)]) (g := (gName 1)) (tt := tYes) (te := (tCallO sp_is_pair_ (tCons (tVar 1) tNil))) rfl sc_is_box.nd (pi_X (pv 0)) (blkOk_by (N := N_is_box) (sc := defScope s_is_box) (own := [("pair", 1)]) (by decide +kernel)) (fun _ _ _ _ _ => (pg_name (i := 1) sc_is_box.nd rfl (Or.inl rfl))) (fun _ _ _ _ _ => pts_nil) (fun _ _ _ _ _ => (pe_cO O_is_pair (hr.mono (by decide)) rfl (pa_cons (pv 1) pa_nil)))) pa_nil)))))

def t__law_so (K : PySem.W.Frag) (sp__law_so_ : Sp) : TS := (tSeq (tIfS (tTest (tOp rIsNon (tVar 1) (tC .non))) (tRet (tOp rIsNon (tVar 0) (tC .non))) tNext)
    (tSeq (tIfS (tB (tCB (rIsi K) (tCons (tVar 1) (tCons (tC (.ty "tuple")) tNil)))) (tSeq (tIfS (tOr (tNot (tB (tCB (rIsi K) (tCons (tVar 0) (tCons (tC (.ty "tuple")) tNil))))) (tTest (tOp (rNeX K) (tCB (rLen K) (tCons (tVar 0) tNil)) (tCB (rLen K) (tCons (tVar 1) tNil))))) (tRet (tC (.bl false))) tNext)
    (tSeq (tFor (iRng1 (tCons (tCB (rLen K) (tCons (tVar 1) tNil)) tNil)) (gName 2) (tIfS (tNot (tB (tCallO sp__law_so_ (tCons (tOp (rIxX K) (tVar 0) (tVar 2)) (tCons (tOp (rIxX K) (tVar 1) (tVar 2)) tNil))))) (tRet (tC (.bl false))) tNext))
    (tRet (tC (.bl true))))) tNext)
    (tSeq (tIfS (tOr (tB (tCB (rIsi K) (tCons (tVar 1) (tCons (tC (.ty "bool")) tNil)))) (tB (tCB (rIsi K) (tCons (tVar 0) (tCons (tC (.ty "bool")) tNil))))) (tRet (tAndV (tCB (rIsi K) (tCons (tVar 1) (tCons (tC (.ty "bool")) tNil))) (tAndV (tCB (rIsi K) (tCons (tVar 0) (tCons (tC (.ty "bool")) tNil))) (tOp (rEqX K) (tVar 0) (tVar 1))))) tNext)
    (tSeq (tIfS (tB (tCB (rIsi K) (tCons (tVar 1) (tCons (tC (.ty "int")) tNil)))) (tRet (tAndV (tCB (rIsi K) (tCons (tVar 0) (tCons (tC (.ty "int")) tNil))) (tOp (rEqX K) (tVar 0) (tVar 1)))) tNext)
    (tRet (tAndV (tCB (rIsi K) (tCons (tVar 1) (tCons (tC (.ty "str")) tNil))) (tAndV (tCB (rIsi K) (tCons (tVar 0) (tCons (tC (.ty "str")) tNil))) (tOp (rEqX K) (tVar 0) (tVar 1)))))))))
theorem d__law_so {sp__law_so_ : Sp} {E : XK} {f : Addr} {A : Around} {outer : List Env} {s : Shared} {H : Hp} {cdv : Value} {k_ : Nat} (hr : Room k_ (A.deeper (PyProof.Rows.envOfC "_law_so" (defScope s__law_so) s.heap.objs.size f cdv))) (T : Txt K mg tk_COORDINATE_LIMIT tk_MOST_AXES) (O__law_so : Ok P w K mg base k_ "_law_so" ["found", "meant"] sp__law_so_) :
    PSs (cxOf CX0 P w K mg base N__law_so "_law_so" (defScope s__law_so) f cdv A outer s H E).nox (defBody s__law_so) (t__law_so K sp__law_so_) :=
  (pss_cons (ps_if (pt_cmpR o_isN (pv 1) pe_non (nomark _)) (pss_one (ps_ret (pe_cmpR o_isN (pv 0) pe_non (nomark _)))) pss_nil)
    (pss_cons (ps_if (pt_val (pe_callB call_isi (by rfl) T.b_isinstance (by decide +kernel) (pa_cons (pv 1) (pa_cons (pe_bltn (v := .ty "tuple") (by rfl) T.b_tuple (by decide +kernel) rfl) pa_nil)))) (pss_cons (ps_if (PW.pt (pw_or (pt_not (pt_val (pe_callB call_isi (by rfl) T.b_isinstance (by decide +kernel) (pa_cons (pv 0) (pa_cons (pe_bltn (v := .ty "tuple") (by rfl) T.b_tuple (by decide +kernel) rfl) pa_nil))))) (pw_or1 (pt_cmpR (op_neX hr.units) (pe_callB c_len (by rfl) T.b_len (by decide +kernel) (pa_cons (pv 0) pa_nil)) (pe_callB c_len (by rfl) T.b_len (by decide +kernel) (pa_cons (pv 1) pa_nil)) (nomark _))))) (pss_one (ps_ret pe_bl)) pss_nil)
    (pss_cons (ps_for PassesOwn.never rfl (pi_range1 (by rfl) T.b_range (pa_cons (pe_callB c_len (by rfl) T.b_len (by decide +kernel) (pa_cons (pv 1) pa_nil)) pa_nil)) (pg_name (i := 2) sc__law_so.nd rfl (Or.inl rfl)) (pss_one (ps_if (pt_not (pt_val (pe_cO O__law_so hr rfl (pa_cons (pe_ix ix_X (pv 0) (pv 2) (fun _ _ => rfl)) (pa_cons (pe_ix ix_X (pv 1) (pv 2) (fun _ _ => rfl)) pa_nil))))) (pss_one (ps_ret pe_bl)) pss_nil)))
    (pss_one (ps_ret pe_bl)))) pss_nil)
    (pss_cons (ps_if (PW.pt (pw_or (pt_val (pe_callB call_isi (by rfl) T.b_isinstance (by decide +kernel) (pa_cons (pv 1) (pa_cons (pe_bltn (v := .ty "bool") (by rfl) T.b_bool (by decide +kernel) rfl) pa_nil)))) (pw_or1 (pt_val (pe_callB call_isi (by rfl) T.b_isinstance (by decide +kernel) (pa_cons (pv 0) (pa_cons (pe_bltn (v := .ty "bool") (by rfl) T.b_bool (by decide +kernel) rfl) pa_nil))))))) (pss_one (ps_ret (pe_and (pe_callB call_isi (by rfl) T.b_isinstance (by decide +kernel) (pa_cons (pv 1) (pa_cons (pe_bltn (v := .ty "bool") (by rfl) T.b_bool (by decide +kernel) rfl) pa_nil))) (pe_and (pe_callB call_isi (by rfl) T.b_isinstance (by decide +kernel) (pa_cons (pv 0) (pa_cons (pe_bltn (v := .ty "bool") (by rfl) T.b_bool (by decide +kernel) rfl) pa_nil))) (pe_one (pe_cmpR (op_eqX hr.units) (pv 0) (pv 1) (nomark _))))))) pss_nil)
    (pss_cons (ps_if (pt_val (pe_callB call_isi (by rfl) T.b_isinstance (by decide +kernel) (pa_cons (pv 1) (pa_cons (pe_bltn (v := .ty "int") (by rfl) T.b_int (by decide +kernel) rfl) pa_nil)))) (pss_one (ps_ret (pe_and (pe_callB call_isi (by rfl) T.b_isinstance (by decide +kernel) (pa_cons (pv 0) (pa_cons (pe_bltn (v := .ty "int") (by rfl) T.b_int (by decide +kernel) rfl) pa_nil))) (pe_one (pe_cmpR (op_eqX hr.units) (pv 0) (pv 1) (nomark _)))))) pss_nil)
    (pss_one (ps_ret (pe_and (pe_callB call_isi (by rfl) T.b_isinstance (by decide +kernel) (pa_cons (pv 1) (pa_cons (pe_bltn (v := .ty "str") (by rfl) T.b_str (by decide +kernel) rfl) pa_nil))) (pe_and (pe_callB call_isi (by rfl) T.b_isinstance (by decide +kernel) (pa_cons (pv 0) (pa_cons (pe_bltn (v := .ty "str") (by rfl) T.b_str (by decide +kernel) rfl) pa_nil))) (pe_one (pe_cmpR (op_eqX hr.units) (pv 0) (pv 1) (nomark _)))))))))))

def t__law_numbers (K : PySem.W.Frag) : TS := (tSeq (tAsg (tLst tNil) (gName 1))
    (tSeq (tFor (iX K (tSl (rSlX K) (tVar 0) tNoPart (tPart (tC (.int 63))))) (gName 2) (tIfS (tTest (tOp rGe (tVar 2) (tOp rPow (tC (.int 10)) (tC (.int 18))))) (tSeq (tAsg (tVar 2) (gName 3))
    (tFor (iRng1 (tCons (tC (.int 60)) tNil)) (gName 4) (tSeq (tIfS (tTest (tOp (rEqX K) (tVar 3) (tC (.int 0)))) tBreak tNext)
    (tSeq (tDrop (tBM K "list" rAppend (tVar 1) (tCons (tOp rModI (tCB rIntO (tCons (tVar 3) tNil)) (tC (.int 997))) tNil)))
    (tAsg (tOp rFdv (tVar 3) (tC (.int 997))) (gName 3)))))) (tFor (iRng1 (tCons (tC (.int 4)) tNil)) (gName 4) (tSeq (tAsg (tOp rModI (tCB rIntO (tCons (tOp (rAddX K) (tOp (rAddX K) (tOp (rMulX K) (tVar 2) (tC (.int 48271))) (tOp (rMulX K) (tVar 4) (tC (.int 69621)))) (tC (.int 11))) tNil)) (tC (.int 2147483647))) (gName 5))
    (tDrop (tBM K "list" rAppend (tVar 1) (tCons (tOp rModI (tCB rIntO (tCons (tOp (rAddX K) (tOp (rMulX K) (tVar 5) (tC (.int 16807))) (tVar 4)) tNil)) (tC (.int 2147483629))) tNil)))))))
    (tCut (tIfS (tTest (tOp (rEqX K) (tCB (rLen K) (tCons (tVar 1) tNil)) (tC (.int 0)))) (tDrop (tBM K "list" rAppend (tVar 1) (tCons (tC (.int 0)) tNil))) tNext)
    (tRet (tVar 1)))))
theorem d__law_numbers {E : XK} {f : Addr} {A : Around} {outer : List Env} {s : Shared} {H : Hp} {cdv : Value} (hr : Room 0 (A.deeper (PyProof.Rows.envOfC "_law_numbers" (defScope s__law_numbers) s.heap.objs.size f cdv))) (T : Txt K mg tk_COORDINATE_LIMIT tk_MOST_AXES)  :
    PSs (cxOf CX0 P w K mg base N__law_numbers "_law_numbers" (defScope s__law_numbers) f cdv A outer s H E).nox (defBody s__law_numbers) (t__law_numbers K) :=
  (pss_cons (ps_set (i := 1) sc__law_numbers.nd rfl (Or.inl rfl) (pe_lst pa_nil))
    (pss_cons (ps_for PassesOwn.never rfl (pi_X (pe_slice sl_X (pv 0) po_none (po_some pe_int))) (pg_name (i := 2) sc__law_numbers.nd rfl (Or.inl rfl)) (pss_one (ps_if (pt_cmpR o_ge (pv 2) (pe_op o_pow pe_int pe_int) (nomark _)) (pss_cons (ps_set (i := 3) sc__law_numbers.nd rfl (Or.inl rfl) (pv 2))
    (pss_one (ps_for PassesOwn.never rfl (pi_range1 (by rfl) T.b_range (pa_cons pe_int pa_nil)) (pg_name (i := 4) sc__law_numbers.nd rfl (Or.inl rfl)) (pss_cons (ps_if (pt_cmpR (op_eqX hr.units) (pv 3) pe_int (nomark _)) (pss_one ps_break) pss_nil)
    (pss_cons (ps_expr (pe_bm PySem.F.plainAttrs_list PySem.F.slot_list_append PySem.F.type_list_append mt_append (pv 1) (pa_cons (pe_op o_mod (pe_callTy c_int (by rfl) T.b_int (by decide +kernel) (pa_cons (pv 3) pa_nil)) pe_int) pa_nil)))
    (pss_one (ps_set (i := 3) sc__law_numbers.nd rfl (Or.inl rfl) (pe_op o_fdiv (pv 3) pe_int)))))))) (pss_one (ps_for PassesOwn.never rfl (pi_range1 (by rfl) T.b_range (pa_cons pe_int pa_nil)) (pg_name (i := 4) sc__law_numbers.nd rfl (Or.inl rfl)) (pss_cons (ps_set (i := 5) sc__law_numbers.nd rfl (Or.inl rfl) (pe_op o_mod (pe_callTy c_int (by rfl) T.b_int (by decide +kernel) (pa_cons (pe_op op_addX (pe_op op_addX (pe_op op_mulX (pv 2) pe_int) (pe_op op_mulX (pv 4) pe_int)) pe_int) pa_nil)) pe_int))
    (pss_one (ps_expr (pe_bm PySem.F.plainAttrs_list PySem.F.slot_list_append PySem.F.type_list_append mt_append (pv 1) (pa_cons (pe_op o_mod (pe_callTy c_int (by rfl) T.b_int (by decide +kernel) (pa_cons (pe_op op_addX (pe_op op_mulX (pv 5) pe_int) (pv 4)) pa_nil)) pe_int) pa_nil))))))))))
    (pss_cut (ps_if (pt_cmpR (op_eqX hr.units) (pe_callB c_len (by rfl) T.b_len (by decide +kernel) (pa_cons (pv 1) pa_nil)) pe_int (nomark _)) (pss_one (ps_expr (pe_bm PySem.F.plainAttrs_list PySem.F.slot_list_append PySem.F.type_list_append mt_append (pv 1) (pa_cons pe_int pa_nil)))) pss_nil)
    (pss_one (ps_ret (pv 1))))))

def t__law_draw (K : PySem.W.Frag) : TS := (tSeq (tIfS (tTest (tOp rLt (tVar 1) (tCB (rLen K) (tCons (tVar 0) tNil)))) (tRet (tOp rModI (tCB rIntO (tCons (tOp (rIxX K) (tVar 0) (tVar 1)) tNil)) (tVar 2))) tNext)
    (tSeq (tAsg (tOp rModI (tCB rIntO (tCons (tOp (rAddX K) (tOp (rAddX K) (tOp (rMulX K) (tOp (rIxX K) (tVar 0) (tOp rModI (tCB rIntO (tCons (tVar 1) tNil)) (tCB (rLen K) (tCons (tVar 0) tNil)))) (tC (.int 40692))) (tOp (rMulX K) (tVar 1) (tC (.int 7919)))) (tC (.int 3))) tNil)) (tC (.int 2147483399))) (gName 3))
    (tRet (tOp rModI (tCB rIntO (tCons (tOp rModI (tCB rIntO (tCons (tOp (rAddX K) (tOp (rMulX K) (tVar 3) (tC (.int 48271))) (tVar 1)) tNil)) (tC (.int 2147483647))) tNil)) (tVar 2)))))
theorem d__law_draw {E : XK} {f : Addr} {A : Around} {outer : List Env} {s : Shared} {H : Hp} {cdv : Value} (hr : Room 0 (A.deeper (PyProof.Rows.envOfC "_law_draw" (defScope s__law_draw) s.heap.objs.size f cdv))) (T : Txt K mg tk_COORDINATE_LIMIT tk_MOST_AXES)  :
    PSs (cxOf CX0 P w K mg base N__law_draw "_law_draw" (defScope s__law_draw) f cdv A outer s H E).nox (defBody s__law_draw) (t__law_draw K) :=
  (pss_cons (ps_if (pt_cmpR o_lt (pv 1) (pe_callB c_len (by rfl) T.b_len (by decide +kernel) (pa_cons (pv 0) pa_nil)) (nomark _)) (pss_one (ps_ret (pe_op o_mod (pe_callTy c_int (by rfl) T.b_int (by decide +kernel) (pa_cons (pe_ix ix_X (pv 0) (pv 1) (fun _ _ => rfl)) pa_nil)) (pv 2)))) pss_nil)
    (pss_cons (ps_set (i := 3) sc__law_draw.nd rfl (Or.inl rfl) (pe_op o_mod (pe_callTy c_int (by rfl) T.b_int (by decide +kernel) (pa_cons (pe_op op_addX (pe_op op_addX (pe_op op_mulX (pe_ix ix_X (pv 0) (pe_op o_mod (pe_callTy c_int (by rfl) T.b_int (by decide +kernel) (pa_cons (pv 1) pa_nil)) (pe_callB c_len (by rfl) T.b_len (by decide +kernel) (pa_cons (pv 0) pa_nil))) (fun _ _ => rfl)) pe_int) (pe_op op_mulX (pv 1) pe_int)) pe_int) pa_nil)) pe_int))
    (pss_one (ps_ret (pe_op o_mod (pe_callTy c_int (by rfl) T.b_int (by decide +kernel) (pa_cons (pe_op o_mod (pe_callTy c_int (by rfl) T.b_int (by decide +kernel) (pa_cons (pe_op op_addX (pe_op op_mulX (pv 3) pe_int) (pv 1)) pa_nil)) pe_int) pa_nil)) (pv 2))))))

def t__law_take (K : PySem.W.Frag) (sp__law_draw_ : Sp) : TS := (tSeq (tAsg (tOp (rAddX K) (tOp (rIxX K) (tVar 1) (tC (.int 0))) (tC (.int 1))) (gSub (tVar 1) (tC (.int 0)) rSetL))
    (tRet (tCallO sp__law_draw_ (tCons (tVar 0) (tCons (tOp rSub (tOp (rIxX K) (tVar 1) (tC (.int 0))) (tC (.int 1))) (tCons (tVar 2) tNil))))))
theorem d__law_take {sp__law_draw_ : Sp} {E : XK} {f : Addr} {A : Around} {outer : List Env} {s : Shared} {H : Hp} {cdv : Value} (hr : Room 1 (A.deeper (PyProof.Rows.envOfC "_law_take" (defScope s__law_take) s.heap.objs.size f cdv))) (T : Txt K mg tk_COORDINATE_LIMIT tk_MOST_AXES) (O__law_draw : Ok P w K mg base 1 "_law_draw" ["row", "at", "limit"] sp__law_draw_) :
    PSs (cxOf CX0 P w K mg base N__law_take "_law_take" (defScope s__law_take) f cdv A outer s H E).nox (defBody s__law_take) (t__law_take K sp__law_draw_) :=
  (pss_cons (ps_asg (pe_op op_addX (pe_ix ix_X (pv 1) pe_int (fun _ _ => rfl)) pe_int) (pg_sub (pv 1) pe_int set_list))
    (pss_one (ps_ret (pe_cO O__law_draw (hr.mono (by decide)) rfl (pa_cons (pv 0) (pa_cons (pe_op o_sub (pe_ix ix_X (pv 1) pe_int (fun _ _ => rfl)) pe_int) (pa_cons (pv 2) pa_nil)))))))

def t__law_wide (K : PySem.W.Frag) (sp__law_take_ : Sp) : TS := (tSeq (tAsg (tCallO sp__law_take_ (tCons (tVar 0) (tCons (tVar 1) (tCons (tC (.int 997)) tNil)))) (gName 3))
    (tSeq (tAsg (tCallO sp__law_take_ (tCons (tVar 0) (tCons (tVar 1) (tCons (tC (.int 997)) tNil)))) (gName 4))
    (tSeq (tAsg (tCallO sp__law_take_ (tCons (tVar 0) (tCons (tVar 1) (tCons (tC (.int 997)) tNil)))) (gName 5))
    (tRet (tOp rModI (tCB rIntO (tCons (tOp (rAddX K) (tOp (rAddX K) (tOp (rMulX K) (tVar 3) (tC (.int 994009))) (tOp (rMulX K) (tVar 4) (tC (.int 997)))) (tVar 5)) tNil)) (tVar 2))))))
theorem d__law_wide {sp__law_take_ : Sp} {E : XK} {f : Addr} {A : Around} {outer : List Env} {s : Shared} {H : Hp} {cdv : Value} (hr : Room 2 (A.deeper (PyProof.Rows.envOfC "_law_wide" (defScope s__law_wide) s.heap.objs.size f cdv))) (T : Txt K mg tk_COORDINATE_LIMIT tk_MOST_AXES) (O__law_take : Ok P w K mg base 2 "_law_take" ["row", "spot", "limit"] sp__law_take_) :
    PSs (cxOf CX0 P w K mg base N__law_wide "_law_wide" (defScope s__law_wide) f cdv A outer s H E).nox (defBody s__law_wide) (t__law_wide K sp__law_take_) :=
  (pss_cons (ps_set (i := 3) sc__law_wide.nd rfl (Or.inl rfl) (pe_cO O__law_take (hr.mono (by decide)) rfl (pa_cons (pv 0) (pa_cons (pv 1) (pa_cons pe_int pa_nil)))))
    (pss_cons (ps_set (i := 4) sc__law_wide.nd rfl (Or.inl rfl) (pe_cO O__law_take (hr.mono (by decide)) rfl (pa_cons (pv 0) (pa_cons (pv 1) (pa_cons pe_int pa_nil)))))
    (pss_cons (ps_set (i := 5) sc__law_wide.nd rfl (Or.inl rfl) (pe_cO O__law_take (hr.mono (by decide)) rfl (pa_cons (pv 0) (pa_cons (pv 1) (pa_cons pe_int pa_nil)))))
    (pss_one (ps_ret (pe_op o_mod (pe_callTy c_int (by rfl) T.b_int (by decide +kernel) (pa_cons (pe_op op_addX (pe_op op_addX (pe_op op_mulX (pv 3) pe_int) (pe_op op_mulX (pv 4) pe_int)) (pv 5)) pa_nil)) (pv 2)))))))

def t__law_clip (K : PySem.W.Frag) : TS := (tRet (tCB rMx2 (tCons (tUn rNeg (tC (.int 1000000))) (tCons (tCB rMn2 (tCons (tC (.int 1000000)) (tCons (tVar 0) tNil))) tNil))))
theorem d__law_clip {E : XK} {f : Addr} {A : Around} {outer : List Env} {s : Shared} {H : Hp} {cdv : Value} (hr : Room 0 (A.deeper (PyProof.Rows.envOfC "_law_clip" (defScope s__law_clip) s.heap.objs.size f cdv))) (T : Txt K mg tk_COORDINATE_LIMIT tk_MOST_AXES)  :
    PSs (cxOf CX0 P w K mg base N__law_clip "_law_clip" (defScope s__law_clip) f cdv A outer s H E).nox (defBody s__law_clip) (t__law_clip K) :=
  (pss_one (ps_ret (pe_callB (c_max2 rfl) (by rfl) T.b_max (by decide +kernel) (pa_cons (pe_un u_neg pe_int) (pa_cons (pe_callB (c_min2 rfl) (by rfl) T.b_min (by decide +kernel) (pa_cons pe_int (pa_cons (pv 0) pa_nil))) pa_nil)))))

def t__law_middle (K : PySem.W.Frag) (sp__law_take_ : Sp) (sp__law_wide_ : Sp) : TS := (tSeq (tAsg (tLst tNil) (gName 4))
    (tSeq (tFor (iRng1 (tCons (tVar 2) tNil)) (gName 5) (tSeq (tAsg (tOp rSub (tCallO sp__law_wide_ (tCons (tVar 0) (tCons (tVar 1) (tCons (tC (.int 2000001)) tNil)))) (tC (.int 1000000))) (gName 6))
    (tDrop (tBM K "list" rAppend (tVar 4) (tCons (tOp (rIxX K) (tLst (tCons (tOp rSub (tOp (rMulX K) (tC (.int 5)) (tCallO sp__law_take_ (tCons (tVar 0) (tCons (tVar 1) (tCons (tC (.int 17)) tNil))))) (tC (.int 40))) (tCons (tVar 6) (tCons (tIf (tTest (tOp rLt (tVar 6) (tC (.int 0)))) (tC (.int 1000000)) (tUn rNeg (tC (.int 1000000)))) tNil)))) (tVar 3)) tNil)))))
    (tRet (tVar 4))))
theorem d__law_middle {sp__law_take_ : Sp} {sp__law_wide_ : Sp} {E : XK} {f : Addr} {A : Around} {outer : List Env} {s : Shared} {H : Hp} {cdv : Value} (hr : Room 3 (A.deeper (PyProof.Rows.envOfC "_law_middle" (defScope s__law_middle) s.heap.objs.size f cdv))) (T : Txt K mg tk_COORDINATE_LIMIT tk_MOST_AXES) (O__law_take : Ok P w K mg base 2 "_law_take" ["row", "spot", "limit"] sp__law_take_) (O__law_wide : Ok P w K mg base 3 "_law_wide" ["row", "spot", "limit"] sp__law_wide_) :
    PSs (cxOf CX0 P w K mg base N__law_middle "_law_middle" (defScope s__law_middle) f cdv A outer s H E).nox (defBody s__law_middle) (t__law_middle K sp__law_take_ sp__law_wide_) :=
  (pss_cons (ps_set (i := 4) sc__law_middle.nd rfl (Or.inl rfl) (pe_lst pa_nil))
    (pss_cons (ps_for PassesOwn.never rfl (pi_range1 (by rfl) T.b_range (pa_cons (pv 2) pa_nil)) (pg_name (i := 5) sc__law_middle.nd rfl (Or.inl rfl)) (pss_cons (ps_set (i := 6) sc__law_middle.nd rfl (Or.inl rfl) (pe_op o_sub (pe_cO O__law_wide (hr.mono (by decide)) rfl (pa_cons (pv 0) (pa_cons (pv 1) (pa_cons pe_int pa_nil)))) pe_int))
    (pss_one (ps_expr (pe_bm PySem.F.plainAttrs_list PySem.F.slot_list_append PySem.F.type_list_append mt_append (pv 4) (pa_cons (pe_ix ix_X (pe_lst (pa_cons (pe_op o_sub (pe_op op_mulX pe_int (pe_cO O__law_take (hr.mono (by decide)) rfl (pa_cons (pv 0) (pa_cons (pv 1) (pa_cons pe_int pa_nil))))) pe_int) (pa_cons (pv 6) (pa_cons (pe_ifExp (pt_cmpR o_lt (pv 6) pe_int (nomark _)) pe_int (pe_un u_neg pe_int)) pa_nil)))) (pv 3) (fun _ _ => rfl)) pa_nil))))))
    (pss_one (ps_ret (pv 4)))))

def t__law_extent (K : PySem.W.Frag) (sp__law_take_ : Sp) (sp__law_wide_ : Sp) : TS := (tSeq (tIfS (tTest (tOp (rEqX K) (tCallO sp__law_take_ (tCons (tVar 0) (tCons (tVar 1) (tCons (tC (.int 4)) tNil)))) (tC (.int 0)))) (tRet (tC (.int 0))) tNext)
    (tSeq (tIfS (tAnd (tTest (tOp (rEqX K) (tVar 2) (tC (.int 1)))) (tTest (tOp (rEqX K) (tCallO sp__law_take_ (tCons (tVar 0) (tCons (tVar 1) (tCons (tC (.int 3)) tNil)))) (tC (.int 0))))) (tRet (tCallO sp__law_wide_ (tCons (tVar 0) (tCons (tVar 1) (tCons (tC (.int 2000001)) tNil))))) tNext)
    (tRet (tCallO sp__law_take_ (tCons (tVar 0) (tCons (tVar 1) (tCons (tC (.int 9)) tNil)))))))
theorem d__law_extent {sp__law_take_ : Sp} {sp__law_wide_ : Sp} {E : XK} {f : Addr} {A : Around} {outer : List Env} {s : Shared} {H : Hp} {cdv : Value} (hr : Room 3 (A.deeper (PyProof.Rows.envOfC "_law_extent" (defScope s__law_extent) s.heap.objs.size f cdv))) (T : Txt K mg tk_COORDINATE_LIMIT tk_MOST_AXES) (O__law_take : Ok P w K mg base 2 "_law_take" ["row", "spot", "limit"] sp__law_take_) (O__law_wide : Ok P w K mg base 3 "_law_wide" ["row", "spot", "limit"] sp__law_wide_) :
    PSs (cxOf CX0 P w K mg base N__law_extent "_law_extent" (defScope s__law_extent) f cdv A outer s H E).nox (defBody s__law_extent) (t__law_extent K sp__law_take_ sp__law_wide_) :=
  (pss_cons (ps_if (pt_cmpR (op_eqX hr.units) (pe_cO O__law_take (hr.mono (by decide)) rfl (pa_cons (pv 0) (pa_cons (pv 1) (pa_cons pe_int pa_nil)))) pe_int (nomark _)) (pss_one (ps_ret pe_int)) pss_nil)
    (pss_cons (ps_if (PW.pt (pw_and (pt_cmpR (op_eqX hr.units) (pv 2) pe_int (nomark _)) (pw_and1 (pt_cmpR (op_eqX hr.units) (pe_cO O__law_take (hr.mono (by decide)) rfl (pa_cons (pv 0) (pa_cons (pv 1) (pa_cons pe_int pa_nil)))) pe_int (nomark _))))) (pss_one (ps_ret (pe_cO O__law_wide (hr.mono (by decide)) rfl (pa_cons (pv 0) (pa_cons (pv 1) (pa_cons pe_int pa_nil)))))) pss_nil)
    (pss_one (ps_ret (pe_cO O__law_take (hr.mono (by decide)) rfl (pa_cons (pv 0) (pa_cons (pv 1) (pa_cons pe_int pa_nil))))))))

def t__law_box (K : PySem.W.Frag) (sp__law_clip_ : Sp) (sp__law_extent_ : Sp) (sp__law_take_ : Sp) : TS := (tSeq (tAsg (tLst tNil) (gName 4))
    (tSeq (tFor (iRng1 (tCons (tCB (rLen K) (tCons (tVar 3) tNil)) tNil)) (gName 5) (tSeq (tAsg (tCallO sp__law_clip_ (tCons (tOp rSub (tOp (rAddX K) (tOp (rIxX K) (tVar 3) (tVar 5)) (tCallO sp__law_take_ (tCons (tVar 0) (tCons (tVar 1) (tCons (tC (.int 13)) tNil))))) (tC (.int 6))) tNil)) (gName 6))
    (tDrop (tBM K "list" rAppend (tVar 4) (tCons (tTup (tCons (tVar 6) (tCons (tCB rMn2 (tCons (tC (.int 1000000)) (tCons (tOp (rAddX K) (tVar 6) (tCallO sp__law_extent_ (tCons (tVar 0) (tCons (tVar 1) (tCons (tVar 2) tNil))))) tNil))) tNil))) tNil)))))
    (tRet (tCB (rTupOf K) (tCons (tVar 4) tNil)))))
theorem d__law_box {sp__law_clip_ : Sp} {sp__law_extent_ : Sp} {sp__law_take_ : Sp} {E : XK} {f : Addr} {A : Around} {outer : List Env} {s : Shared} {H : Hp} {cdv : Value} (hr : Room 4 (A.deeper (PyProof.Rows.envOfC "_law_box" (defScope s__law_box) s.heap.objs.size f cdv))) (T : Txt K mg tk_COORDINATE_LIMIT tk_MOST_AXES) (O__law_clip : Ok P w K mg base 1 "_law_clip" ["number"] sp__law_clip_) (O__law_extent : Ok P w K mg base 4 "_law_extent" ["row", "spot", "style"] sp__law_extent_) (O__law_take : Ok P w K mg base 2 "_law_take" ["row", "spot", "limit"] sp__law_take_) :
    PSs (cxOf CX0 P w K mg base N__law_box "_law_box" (defScope s__law_box) f cdv A outer s H E).nox (defBody s__law_box) (t__law_box K sp__law_clip_ sp__law_extent_ sp__law_take_) :=
  (pss_cons (ps_set (i := 4) sc__law_box.nd rfl (Or.inl rfl) (pe_lst pa_nil))
    (pss_cons (ps_for PassesOwn.never rfl (pi_range1 (by rfl) T.b_range (pa_cons (pe_callB c_len (by rfl) T.b_len (by decide +kernel) (pa_cons (pv 3) pa_nil)) pa_nil)) (pg_name (i := 5) sc__law_box.nd rfl (Or.inl rfl)) (pss_cons (ps_set (i := 6) sc__law_box.nd rfl (Or.inl rfl) (pe_cO O__law_clip (hr.mono (by decide)) rfl (pa_cons (pe_op o_sub (pe_op op_addX (pe_ix ix_X (pv 3) (pv 5) (fun _ _ => rfl)) (pe_cO O__law_take (hr.mono (by decide)) rfl (pa_cons (pv 0) (pa_cons (pv 1) (pa_cons pe_int pa_nil))))) pe_int) pa_nil)))
    (pss_one (ps_expr (pe_bm PySem.F.plainAttrs_list PySem.F.slot_list_append PySem.F.type_list_append mt_append (pv 4) (pa_cons (pe_tup (pa_cons (pv 6) (pa_cons (pe_callB (c_min2 rfl) (by rfl) T.b_min (by decide +kernel) (pa_cons pe_int (pa_cons (pe_op op_addX (pv 6) (pe_cO O__law_extent (hr.mono (by decide)) rfl (pa_cons (pv 0) (pa_cons (pv 1) (pa_cons (pv 2) pa_nil))))) pa_nil))) pa_nil))) pa_nil))))))
    (pss_one (ps_ret (pe_callTy c_tuple (by rfl) T.b_tuple (by decide +kernel) (pa_cons (pv 4) pa_nil))))))

def t__law_style (K : PySem.W.Frag) (sp__law_take_ : Sp) : TS := (tRet (tOp (rIxX K) (tLst (tCons (tC (.int 0)) (tCons (tC (.int 0)) (tCons (tC (.int 0)) (tCons (tC (.int 1)) (tCons (tC (.int 2)) tNil)))))) (tCallO sp__law_take_ (tCons (tVar 0) (tCons (tVar 1) (tCons (tC (.int 5)) tNil))))))
theorem d__law_style {sp__law_take_ : Sp} {E : XK} {f : Addr} {A : Around} {outer : List Env} {s : Shared} {H : Hp} {cdv : Value} (hr : Room 2 (A.deeper (PyProof.Rows.envOfC "_law_style" (defScope s__law_style) s.heap.objs.size f cdv))) (T : Txt K mg tk_COORDINATE_LIMIT tk_MOST_AXES) (O__law_take : Ok P w K mg base 2 "_law_take" ["row", "spot", "limit"] sp__law_take_) :
    PSs (cxOf CX0 P w K mg base N__law_style "_law_style" (defScope s__law_style) f cdv A outer s H E).nox (defBody s__law_style) (t__law_style K sp__law_take_) :=
  (pss_one (ps_ret (pe_ix ix_X (pe_lst (pa_cons pe_int (pa_cons pe_int (pa_cons pe_int (pa_cons pe_int (pa_cons pe_int pa_nil)))))) (pe_cO O__law_take (hr.mono (by decide)) rfl (pa_cons (pv 0) (pa_cons (pv 1) (pa_cons pe_int pa_nil)))) (fun _ _ => rfl))))

def t__law_listed (K : PySem.W.Frag) (sp__law_listed_ : Sp) : TS := (tSeq (tIfS (tB (tCB (rIsi K) (tCons (tVar 0) (tCons (tC (.ty "tuple")) tNil)))) (tRet (tLc (iX K (tVar 0)) (gName 1) tYes (tCallO sp__law_listed_ (tCons (tVar 1) tNil)) [1])) tNext)
    (tRet (tVar 0)))
theorem d__law_listed {sp__law_listed_ : Sp} {E : XK} {f : Addr} {A : Around} {outer : List Env} {s : Shared} {H : Hp} {cdv : Value} {k_ : Nat} (hr : Room k_ (A.deeper (PyProof.Rows.envOfC "_law_listed" (defScope s__law_listed) s.heap.objs.size f cdv))) (T : Txt K mg tk_COORDINATE_LIMIT tk_MOST_AXES) (O__law_listed : Ok P w K mg base k_ "_law_listed" ["value"] sp__law_listed_) :
    PSs (cxOf CX0 P w K mg base N__law_listed "_law_listed" (defScope s__law_listed) f cdv A outer s H E).nox (defBody s__law_listed) (t__law_listed K sp__law_listed_) :=
  (pss_cons (ps_if (pt_val (pe_callB call_isi (by rfl) T.b_isinstance (by decide +kernel) (pa_cons (pv 0) (pa_cons (pe_bltn (v := .ty "tuple") (by rfl) T.b_tuple (by decide +kernel) rfl) pa_nil)))) (pss_one (ps_ret (pe_lc (own := [("one", 1)]) (g := (gName 1)) (tt := tYes) (te := (tCallO sp__law_listed_ (tCons (tVar 1) tNil))) rfl sc__law_listed.nd (pi_X (pv 0)) (blkOk_by (N := N__law_listed) (sc := defScope s__law_listed) (own := [("one", 1)]) (by decide +kernel)) (fun _ _ _ _ _ => (pg_name (i := 1) sc__law_listed.nd rfl (Or.inl rfl))) (fun _ _ _ _ _ => pts_nil) (fun _ _ _ _ _ => (pe_cO O__law_listed hr rfl (pa_cons (pv 1) pa_nil)))))) pss_nil)
    (pss_one (ps_ret (pv 0))))

def t__law_tupled (K : PySem.W.Frag) (sp__law_tupled_ : Sp) : TS := (tSeq (tIfS (tOr (tB (tCB (rIsi K) (tCons (tVar 0) (tCons (tC (.ty "list")) tNil)))) (tB (tCB (rIsi K) (tCons (tVar 0) (tCons (tC (.ty "tuple")) tNil))))) (tRet (tCB (rTupOf K) (tCons (tLc (iX K (tVar 0)) (gName 1) tYes (tCallO sp__law_tupled_ (tCons (tVar 1) tNil)) [1]) tNil))) tNext)
    (tRet (tVar 0)))
theorem d__law_tupled {sp__law_tupled_ : Sp} {E : XK} {f : Addr} {A : Around} {outer : List Env} {s : Shared} {H : Hp} {cdv : Value} {k_ : Nat} (hr : Room k_ (A.deeper (PyProof.Rows.envOfC "_law_tupled" (defScope s__law_tupled) s.heap.objs.size f cdv))) (T : Txt K mg tk_COORDINATE_LIMIT tk_MOST_AXES) (O__law_tupled : Ok P w K mg base k_ "_law_tupled" ["value"] sp__law_tupled_) :
    PSs (cxOf CX0 P w K mg base N__law_tupled "_law_tupled" (defScope s__law_tupled) f cdv A outer s H E).nox (defBody s__law_tupled) (t__law_tupled K sp__law_tupled_) :=
  (pss_cons (ps_if (PW.pt (pw_or (pt_val (pe_callB call_isi (by rfl) T.b_isinstance (by decide +kernel) (pa_cons (pv 0) (pa_cons (pe_bltn (v := .ty "list") (by rfl) T.b_list (by decide +kernel) rfl) pa_nil)))) (pw_or1 (pt_val (pe_callB call_isi (by rfl) T.b_isinstance (by decide +kernel) (pa_cons (pv 0) (pa_cons (pe_bltn (v := .ty "tuple") (by rfl) T.b_tuple (by decide +kernel) rfl) pa_nil))))))) (pss_one (ps_ret (pe_callTy c_tuple (by rfl) T.b_tuple (by decide +kernel) (pa_cons (pe_lc (own := [("one", 1)]) (g := (gName 1)) (tt := tYes) (te := (tCallO sp__law_tupled_ (tCons (tVar 1) tNil))) rfl sc__law_tupled.nd (pi_X (pv 0)) (blkOk_by (N := N__law_tupled) (sc := defScope s__law_tupled) (own := [("one", 1)]) (by decide +kernel)) (fun _ _ _ _ _ => (pg_name (i := 1) sc__law_tupled.nd rfl (Or.inl rfl))) (fun _ _ _ _ _ => pts_nil) (fun _ _ _ _ _ => (pe_cO O__law_tupled hr rfl (pa_cons (pv 1) pa_nil)))) pa_nil)))) pss_nil)
    (pss_one (ps_ret (pv 0))))

def t__law_handed (K : PySem.W.Frag) (sp__law_listed_ : Sp) (sp__law_take_ : Sp) : TS := (tRet (tIf (tTest (tOp (rEqX K) (tCallO sp__law_take_ (tCons (tVar 0) (tCons (tVar 1) (tCons (tC (.int 2)) tNil)))) (tC (.int 0)))) (tCallO sp__law_listed_ (tCons (tVar 2) tNil)) (tVar 2)))
theorem d__law_handed {sp__law_listed_ : Sp} {sp__law_take_ : Sp} {E : XK} {f : Addr} {A : Around} {outer : List Env} {s : Shared} {H : Hp} {cdv : Value} (hr : Room 3 (A.deeper (PyProof.Rows.envOfC "_law_handed" (defScope s__law_handed) s.heap.objs.size f cdv))) (T : Txt K mg tk_COORDINATE_LIMIT tk_MOST_AXES) (O__law_listed : Ok P w K mg base 3 "_law_listed" ["value"] sp__law_listed_) (O__law_take : Ok P w K mg base 2 "_law_take" ["row", "spot", "limit"] sp__law_take_) :
    PSs (cxOf CX0 P w K mg base N__law_handed "_law_handed" (defScope s__law_handed) f cdv A outer s H E).nox (defBody s__law_handed) (t__law_handed K sp__law_listed_ sp__law_take_) :=
  (pss_one (ps_ret (pe_ifExp (pt_cmpR (op_eqX hr.units) (pe_cO O__law_take (hr.mono (by decide)) rfl (pa_cons (pv 0) (pa_cons (pv 1) (pa_cons pe_int pa_nil)))) pe_int (nomark _)) (pe_cO O__law_listed (hr.mono (by decide)) rfl (pa_cons (pv 2) pa_nil)) (pv 2))))

def t_law (K : PySem.W.Frag) (sp__law_box_ : Sp) (sp__law_handed_ : Sp) (sp__law_listed_ : Sp) (sp__law_middle_ : Sp) (sp__law_numbers_ : Sp) (sp__law_so_ : Sp) (sp__law_style_ : Sp) (sp__law_take_ : Sp) (sp__law_tupled_ : Sp) (sp_is_box_ : Sp) : TS := (tSeq (tAsg (tCallO sp__law_numbers_ (tCons (tVar 0) tNil)) (gName 1))
    (tSeq (tAsg (tLst (tCons (tC (.int 0)) tNil)) (gName 2))
    (tSeq (tFor (iRng1 (tCons (tC (.int 4)) tNil)) (gName 3) (tSeq (tAsg (tOp (rAddX K) (tC (.int 1)) (tCallO sp__law_take_ (tCons (tVar 1) (tCons (tVar 2) (tCons (tC (.int 4)) tNil))))) (gName 4))
    (tSeq (tAsg (tCallO sp__law_style_ (tCons (tVar 1) (tCons (tVar 2) tNil))) (gName 5))
    (tSeq (tAsg (tCallO sp__law_box_ (tCons (tVar 1) (tCons (tVar 2) (tCons (tVar 5) (tCons (tCallO sp__law_middle_ (tCons (tVar 1) (tCons (tVar 2) (tCons (tVar 4) (tCons (tVar 5) tNil))))) tNil))))) (gName 6))
    (tCut (tIfS (tTest (tOp (rEqX K) (tCallO sp__law_take_ (tCons (tVar 1) (tCons (tVar 2) (tCons (tC (.int 4)) tNil)))) (tC (.int 0)))) (tAsg (tOp (rAddX K) (tTup (tCons (tTup (tCons (tUn rNeg (tC (.int 1000000))) (tCons (tC (.int 1000000)) tNil))) tNil)) (tSl (rSlX K) (tVar 6) (tPart (tC (.int 1))) tNoPart)) (gName 6)) tNext)
    (tSeq (tAsg (tCallO sp__law_handed_ (tCons (tVar 1) (tCons (tVar 2) (tCons (tVar 6) tNil)))) (gName 7))
    (tSeq (tIfS (tOr (tNot (tB (tCallO sp__law_so_ (tCons (tCallOK 0 1 sp_is_box_ [0] tNil (tCons (tVar 7) tNil)) (tCons (tC (.bl true)) tNil))))) (tNot (tB (tCallO sp__law_so_ (tCons (tCallO sp__law_tupled_ (tCons (tVar 7) tNil)) (tCons (tVar 6) tNil)))))) (tRet (tC (.bl false))) tNext)
    (tSeq (tAsg (tCallO sp__law_take_ (tCons (tVar 1) (tCons (tVar 2) (tCons (tVar 4) tNil)))) (gName 8))
    (tSeq (tAsg (tOp (rIxX K) (tOp (rIxX K) (tVar 6) (tVar 8)) (tC (.int 0))) (gName 9))
    (tSeq (tAsg (tLst (tCons (tTup (tCons (tVar 9) (tCons (tOp rSub (tVar 9) (tC (.int 1))) tNil))) (tCons (tTup (tCons (tVar 9) (tCons (tC (.int 1000001)) tNil))) (tCons (tTup (tCons (tUn rNeg (tC (.int 1000001))) (tCons (tVar 9) tNil))) (tCons (tTup (tCons (tVar 9) tNil)) (tCons (tTup (tCons (tVar 9) (tCons (tVar 9) (tCons (tVar 9) tNil)))) (tCons (tTup (tCons (tVar 9) (tCons (tC .non) tNil))) (tCons (tTup (tCons (tC (.bl true)) (tCons (tC (.int 1)) tNil))) tNil)))))))) (gName 10))
    (tSeq (tAsg (tOp (rIxX K) (tOp (rAddX K) (tVar 10) (tLst (tCons (tC (.str "01")) (tCons (tC .non) (tCons (tVar 9) tNil))))) (tCallO sp__law_take_ (tCons (tVar 1) (tCons (tVar 2) (tCons (tC (.int 10)) tNil))))) (gName 10))
    (tSeq (tAsg (tOp (rAddX K) (tOp (rAddX K) (tSl (rSlX K) (tVar 6) tNoPart (tPart (tVar 8))) (tTup (tCons (tVar 10) tNil))) (tSl (rSlX K) (tVar 6) (tPart (tOp (rAddX K) (tVar 8) (tC (.int 1)))) tNoPart)) (gName 11))
    (tCut (tIfS (tTest (tOp (rEqX K) (tCallO sp__law_take_ (tCons (tVar 1) (tCons (tVar 2) (tCons (tC (.int 3)) tNil)))) (tC (.int 0)))) (tAsg (tOp (rIxX K) (tLst (tCons (tTup tNil) (tCons (tOp (rMulX K) (tSl (rSlX K) (tVar 6) tNoPart (tPart (tC (.int 1)))) (tC (.int 5))) (tCons (tC .non) (tCons (tC (.int 7)) (tCons (tC (.str "box")) (tCons (tOp (rIxX K) (tVar 6) (tC (.int 0))) (tCons (tC (.bl true)) tNil)))))))) (tCallO sp__law_take_ (tCons (tVar 1) (tCons (tVar 2) (tCons (tC (.int 7)) tNil))))) (gName 11)) tNext)
    (tIfS (tOr (tNot (tB (tCallO sp__law_so_ (tCons (tCallO sp_is_box_ (tCons (tVar 11) tNil)) (tCons (tC (.bl false)) tNil))))) (tNot (tB (tCallO sp__law_so_ (tCons (tCallO sp_is_box_ (tCons (tCallO sp__law_listed_ (tCons (tVar 11) tNil)) tNil)) (tCons (tC (.bl false)) tNil)))))) (tRet (tC (.bl false))) tNext))))))))))))))
    (tRet (tC (.bl true))))))
theorem d_law {sp__law_box_ : Sp} {sp__law_handed_ : Sp} {sp__law_listed_ : Sp} {sp__law_middle_ : Sp} {sp__law_numbers_ : Sp} {sp__law_so_ : Sp} {sp__law_style_ : Sp} {sp__law_take_ : Sp} {sp__law_tupled_ : Sp} {sp_is_box_ : Sp} {E : XK} {f : Addr} {A : Around} {outer : List Env} {s : Shared} {H : Hp} {cdv : Value} (hr : Room 5 (A.deeper (PyProof.Rows.envOfC "law" (defScope s_law) s.heap.objs.size f cdv))) (T : Txt K mg tk_COORDINATE_LIMIT tk_MOST_AXES) (O__law_box : Ok P w K mg base 5 "_law_box" ["row", "spot", "style", "middle"] sp__law_box_) (O__law_handed : Ok P w K mg base 4 "_law_handed" ["row", "spot", "value"] sp__law_handed_) (O__law_listed : Ok P w K mg base 3 "_law_listed" ["value"] sp__law_listed_) (O__law_middle : Ok P w K mg base 4 "_law_middle" ["row", "spot", "axes", "style"] sp__law_middle_) (O__law_numbers : Ok P w K mg base 1 "_law_numbers" ["script"] sp__law_numbers_) (O__law_so : Ok P w K mg base 4 "_law_so" ["found", "meant"] sp__law_so_) (O__law_style : Ok P w K mg base 3 "_law_style" ["row", "spot"] sp__law_style_) (O__law_take : Ok P w K mg base 2 "_law_take" ["row", "spot", "limit"] sp__law_take_) (O__law_tupled : Ok P w K mg base 3 "_law_tupled" ["value"] sp__law_tupled_) (O_is_box : Ok P w K mg base 5 "is_box" ["value"] sp_is_box_) (kb_is_box_0_value : OkK P w K mg base 5 "is_box" ["value"] sp_is_box_ 0 ["value"] [0]) :
    PSs (cxOf CX0 P w K mg base N_law "law" (defScope s_law) f cdv A outer s H E).nox (defBody s_law) (t_law K sp__law_box_ sp__law_handed_ sp__law_listed_ sp__law_middle_ sp__law_numbers_ sp__law_so_ sp__law_style_ sp__law_take_ sp__law_tupled_ sp_is_box_) :=
  (pss_cons (ps_set (i := 1) sc_law.nd rfl (Or.inl rfl) (pe_cO O__law_numbers (hr.mono (by decide)) rfl (pa_cons (pv 0) pa_nil)))
    (pss_cons (ps_set (i := 2) sc_law.nd rfl (Or.inl rfl) (pe_lst (pa_cons pe_int pa_nil)))
    (pss_cons (ps_for PassesOwn.never rfl (pi_range1 (by rfl) T.b_range (pa_cons pe_int pa_nil)) (pg_name (i := 3) sc_law.nd rfl (Or.inl rfl)) (pss_cons (ps_set (i := 4) sc_law.nd rfl (Or.inl rfl) (pe_op op_addX pe_int (pe_cO O__law_take (hr.mono (by decide)) rfl (pa_cons (pv 1) (pa_cons (pv 2) (pa_cons pe_int pa_nil))))))
    (pss_cons (ps_set (i := 5) sc_law.nd rfl (Or.inl rfl) (pe_cO O__law_style (hr.mono (by decide)) rfl (pa_cons (pv 1) (pa_cons (pv 2) pa_nil))))
    (pss_cons (ps_set (i := 6) sc_law.nd rfl (Or.inl rfl) (pe_cO O__law_box (hr.mono (by decide)) rfl (pa_cons (pv 1) (pa_cons (pv 2) (pa_cons (pv 5) (pa_cons (pe_cO O__law_middle (hr.mono (by decide)) rfl (pa_cons (pv 1) (pa_cons (pv 2) (pa_cons (pv 4) (pa_cons (pv 5) pa_nil))))) pa_nil))))))
    (pss_cut (ps_if (pt_cmpR (op_eqX hr.units) (pe_cO O__law_take (hr.mono (by decide)) rfl (pa_cons (pv 1) (pa_cons (pv 2) (pa_cons pe_int pa_nil)))) pe_int (nomark _)) (pss_one (ps_set (i := 6) sc_law.nd rfl (Or.inl rfl) (pe_op op_addX (pe_tup (pa_cons (pe_tup (pa_cons (pe_un u_neg pe_int) (pa_cons pe_int pa_nil))) pa_nil)) (pe_slice sl_X (pv 6) (po_some pe_int) po_none)))) pss_nil)
    (pss_cons (ps_set (i := 7) sc_law.nd rfl (Or.inl rfl) (pe_cO O__law_handed (hr.mono (by decide)) rfl (pa_cons (pv 1) (pa_cons (pv 2) (pa_cons (pv 6) pa_nil)))))
    (pss_cons (ps_if (PW.pt (pw_or (pt_not (pt_val (pe_cO O__law_so (hr.mono (by decide)) rfl (pa_cons (pe_cK0 kb_is_box_0_value (hr.mono (by decide)) rfl (pk_cons (pv 7) pk_nil)) (pa_cons pe_bl pa_nil))))) (pw_or1 (pt_not (pt_val (pe_cO O__law_so (hr.mono (by decide)) rfl (pa_cons (pe_cO O__law_tupled (hr.mono (by decide)) rfl (pa_cons (pv 7) pa_nil)) (pa_cons (pv 6) pa_nil)))))))) (pss_one (ps_ret pe_bl)) pss_nil)
    (pss_cons (ps_set (i := 8) sc_law.nd rfl (Or.inl rfl) (pe_cO O__law_take (hr.mono (by decide)) rfl (pa_cons (pv 1) (pa_cons (pv 2) (pa_cons (pv 4) pa_nil)))))
    (pss_cons (ps_set (i := 9) sc_law.nd rfl (Or.inl rfl) (pe_ix ix_X (pe_ix ix_X (pv 6) (pv 8) (fun _ _ => rfl)) pe_int (fun _ _ => rfl)))
    (pss_cons (ps_set (i := 10) sc_law.nd rfl (Or.inl rfl) (pe_lst (pa_cons (pe_tup (pa_cons (pv 9) (pa_cons (pe_op o_sub (pv 9) pe_int) pa_nil))) (pa_cons (pe_tup (pa_cons (pv 9) (pa_cons pe_int pa_nil))) (pa_cons (pe_tup (pa_cons (pe_un u_neg pe_int) (pa_cons (pv 9) pa_nil))) (pa_cons (pe_tup (pa_cons (pv 9) pa_nil)) (pa_cons (pe_tup (pa_cons (pv 9) (pa_cons (pv 9) (pa_cons (pv 9) pa_nil)))) (pa_cons (pe_tup (pa_cons (pv 9) (pa_cons pe_non pa_nil))) (pa_cons (pe_tup (pa_cons pe_bl (pa_cons pe_int pa_nil))) pa_nil)))))))))
    (pss_cons (ps_set (i := 10) sc_law.nd rfl (Or.inl rfl) (pe_ix ix_X (pe_op op_addX (pv 10) (pe_lst (pa_cons pe_str (pa_cons pe_non (pa_cons (pv 9) pa_nil))))) (pe_cO O__law_take (hr.mono (by decide)) rfl (pa_cons (pv 1) (pa_cons (pv 2) (pa_cons pe_int pa_nil)))) (fun _ _ => rfl)))
    (pss_cons (ps_set (i := 11) sc_law.nd rfl (Or.inl rfl) (pe_op op_addX (pe_op op_addX (pe_slice sl_X (pv 6) po_none (po_some (pv 8))) (pe_tup (pa_cons (pv 10) pa_nil))) (pe_slice sl_X (pv 6) (po_some (pe_op op_addX (pv 8) pe_int)) po_none)))
    (pss_cut (ps_if (pt_cmpR (op_eqX hr.units) (pe_cO O__law_take (hr.mono (by decide)) rfl (pa_cons (pv 1) (pa_cons (pv 2) (pa_cons pe_int pa_nil)))) pe_int (nomark _)) (pss_one (ps_set (i := 11) sc_law.nd rfl (Or.inl rfl) (pe_ix ix_X (pe_lst (pa_cons (pe_tup pa_nil) (pa_cons (pe_op op_mulX (pe_slice sl_X (pv 6) po_none (po_some pe_int)) pe_int) (pa_cons pe_non (pa_cons pe_int (pa_cons pe_str (pa_cons (pe_ix ix_X (pv 6) pe_int (fun _ _ => rfl)) (pa_cons pe_bl pa_nil)))))))) (pe_cO O__law_take (hr.mono (by decide)) rfl (pa_cons (pv 1) (pa_cons (pv 2) (pa_cons pe_int pa_nil)))) (fun _ _ => rfl)))) pss_nil)
    (pss_one (ps_if (PW.pt (pw_or (pt_not (pt_val (pe_cO O__law_so (hr.mono (by decide)) rfl (pa_cons (pe_cO O_is_box (hr.mono (by decide)) rfl (pa_cons (pv 11) pa_nil)) (pa_cons pe_bl pa_nil))))) (pw_or1 (pt_not (pt_val (pe_cO O__law_so (hr.mono (by decide)) rfl (pa_cons (pe_cO O_is_box (hr.mono (by decide)) rfl (pa_cons (pe_cO O__law_listed (hr.mono (by decide)) rfl (pa_cons (pv 11) pa_nil)) pa_nil)) (pa_cons pe_bl pa_nil)))))))) (pss_one (ps_ret pe_bl)) pss_nil)))))))))))))))
    (pss_one (ps_ret pe_bl)))))

/-! ### the law's own draws -/
def sp__law_draw : Sp := fun vs H Q _ => ∃ (p : Addr) (rs : List Int) (at_ lim : Int), vs = [.ref p, .int at_, .int lim] ∧ H p = some (.lst (rs.map V.int)) ∧ rs ≠ [] ∧ 0 ≤ at_ ∧ 0 < lim ∧ ∀ r, 0 ≤ r → r < lim → Q (.int r) H
theorem ok__law_draw {f : Addr} {fd : FuncData} (F : Fun K "_law_draw" "_law_draw" s__law_draw f fd) (T : Txt K mg tk_COORDINATE_LIMIT tk_MOST_AXES)  : FnOk P w K mg base CX0 1 f fd ["row", "at", "limit"] sp__law_draw := by
  refine F.ok sc__law_draw (fun vs H Q E h => ?_) (fun cdv A outer s H vs Q E hr h => ?_)
  · obtain ⟨p, rs, a, l, rfl, _⟩ := h
    rfl
  · obtain ⟨p, rs, a, l, rfl, hp, hne, ha, hl, k⟩ := h
    refine ⟨_, d__law_draw hr T , ?_⟩
    unfold t__law_draw
    have hpos : 0 < rs.length := List.length_pos_iff.mpr hne
    have hm : (rs.map V.int).length = rs.length := List.length_map ..
    refine x_start (σ' := [some (.ref p), some (.int a), some (.int l), none]) rfl ?_
    walk_at "sts"
    refine x_lenL hp ?_
    walk_at "sts"
    rw [hm]
    refine x_dec (fun h1 => ?_) (fun h1 => ?_)
    · walk_at "sts"
      have hj : a.toNat < rs.length := by omega
      refine x_ixL (v := .int rs[a.toNat]) hp (at_of (j := a.toNat) (by omega) (ints_at (List.getElem?_eq_getElem hj))) ?_
      walk_at "sts"
      refine x_mod hl ?_
      exact k _ (Int.emod_nonneg _ (by omega)) (Int.emod_lt_of_pos _ hl)
    · walk_at "sts"
      refine x_lenL hp ?_
      rw [hm]
      refine x_mod (by omega) ?_
      have h0 : 0 ≤ a % (rs.length : Int) := Int.emod_nonneg _ (by omega)
      have h2 : a % (rs.length : Int) < rs.length := Int.emod_lt_of_pos _ (by omega)
      have hj : (a % (rs.length : Int)).toNat < rs.length := by omega
      refine x_ixL (v := .int rs[(a % (rs.length : Int)).toNat]) hp (at_of (j := (a % (rs.length : Int)).toNat) (by omega) (ints_at (List.getElem?_eq_getElem hj))) ?_
      walk_at "sts"
      refine x_mulI (cmulR (by decide) (by decide)) ?_
      walk_at "sts"
      refine x_mulI (cmulR (by decide) (by decide)) ?_
      walk_at "sts"
      refine x_mod (by decide) ?_
      walk_at "sts"
      refine x_mulI (cmulR (by decide) (by decide)) ?_
      walk_at "sts"
      refine x_mod (by decide) ?_
      walk_at "sts"
      refine x_mod hl ?_
      exact k _ (Int.emod_nonneg _ (by omega)) (Int.emod_lt_of_pos _ hl)
theorem x_draw {p : Addr} {rs : List Int} {a l : Int} {H : Hp} {Q : VK} {E : XK} (hp : H p = some (.lst (rs.map V.int))) (hne : rs ≠ []) (ha : 0 ≤ a) (hl : 0 < l) (q : ∀ r, 0 ≤ r → r < l → Q (.int r) H) : sp__law_draw [.ref p, .int a, .int l] H Q E :=
  ⟨p, rs, a, l, rfl, hp, hne, ha, hl, q⟩
def sp__law_take : Sp := fun vs H Q _ => ∃ (row sp : Addr) (lim : Int), vs = [.ref row, .ref sp, .int lim] ∧ Wd H row sp ∧ 0 < lim ∧ ∀ r H', 0 ≤ r → r < lim → Kp [sp] H H' → Wd H' row sp → Q (.int r) H'
theorem x_take {row sp : Addr} {l : Int} {H : Hp} {Q : VK} {E : XK} (W : Wd H row sp) (hl : 0 < l) (q : ∀ r H', 0 ≤ r → r < l → Kp [sp] H H' → Wd H' row sp → Q (.int r) H') : sp__law_take [.ref row, .ref sp, .int l] H Q E :=
  ⟨row, sp, l, rfl, W, hl, q⟩
theorem ok__law_take {f : Addr} {fd : FuncData} (F : Fun K "_law_take" "_law_take" s__law_take f fd) (T : Txt K mg tk_COORDINATE_LIMIT tk_MOST_AXES) (O__law_draw : Ok P w K mg base 1 "_law_draw" ["row", "at", "limit"] (sp__law_draw)) : FnOk P w K mg base CX0 2 f fd ["row", "spot", "limit"] sp__law_take := by
  refine F.ok sc__law_take (fun vs H Q E h => ?_) (fun cdv A outer s H vs Q E hr h => ?_)
  · obtain ⟨p, rs, a, rfl, _⟩ := h
    rfl
  · obtain ⟨row, sp, l, rfl, W, hl, k⟩ := h
    obtain ⟨⟨s, rs, h0, hs, hrow, hne, hlen⟩, ne⟩ := id W
    refine ⟨_, d__law_take hr T O__law_draw, ?_⟩
    unfold t__law_take
    refine x_start (σ' := [some (.ref row), some (.ref sp), some (.int l)]) rfl ?_
    walk_at "sts"
    refine x_ixL hs (v := .int s) (by rfl) ?_
    walk_at "sts"
    refine x_setL hs (m := 0) (by rfl) ?_
    walk_at "sts"
    refine x_ixL upd_same (v := .int (s + 1)) (by rfl) ?_
    walk_at "sts"
    refine x_draw (upd_get' ne hrow) hne (by omega) hl fun r r0 r1 => ?_
    exact k r _ r0 r1 (Kp.refl.mut (List.mem_singleton.mpr rfl)) ⟨⟨s + 1, rs, by omega, upd_same, upd_get' ne hrow, hne, hlen⟩, ne⟩
def sp__law_wide : Sp := fun vs H Q _ => ∃ (row sp : Addr) (lim : Int), vs = [.ref row, .ref sp, .int lim] ∧ Wd H row sp ∧ 0 < lim ∧ ∀ r H', 0 ≤ r → r < lim → Kp [sp] H H' → Wd H' row sp → Q (.int r) H'
theorem x_wide {row sp : Addr} {l : Int} {H : Hp} {Q : VK} {E : XK} (W : Wd H row sp) (hl : 0 < l) (q : ∀ r H', 0 ≤ r → r < l → Kp [sp] H H' → Wd H' row sp → Q (.int r) H') : sp__law_wide [.ref row, .ref sp, .int l] H Q E :=
  ⟨row, sp, l, rfl, W, hl, q⟩
theorem ok__law_wide {f : Addr} {fd : FuncData} (F : Fun K "_law_wide" "_law_wide" s__law_wide f fd) (T : Txt K mg tk_COORDINATE_LIMIT tk_MOST_AXES) (O__law_take : Ok P w K mg base 2 "_law_take" ["row", "spot", "limit"] (sp__law_take)) : FnOk P w K mg base CX0 3 f fd ["row", "spot", "limit"] sp__law_wide := by
  refine F.ok sc__law_wide (fun vs H Q E h => ?_) (fun cdv A outer s H vs Q E hr h => ?_)
  · obtain ⟨p, rs, a, rfl, _⟩ := h
    rfl
  · obtain ⟨row, sp, l, rfl, W, hl, k⟩ := h
    refine ⟨_, d__law_wide hr T O__law_take, ?_⟩
    unfold t__law_wide
    refine x_start (σ' := [some (.ref row), some (.ref sp), some (.int l), none, none, none]) rfl ?_
    walk_at "sts"
    refine x_take W (by decide) fun r1 H1 a1 b1 k1 W1 => ?_
    walk_at "sts"
    refine x_take W1 (by decide) fun r2 H2 a2 b2 k2 W2 => ?_
    walk_at "sts"
    refine x_take W2 (by decide) fun r3 H3 a3 b3 k3 W3 => ?_
    walk_at "sts"
    refine x_mulI (cmulR (by decide) (by decide)) ?_
    walk_at "sts"
    refine x_mulI (cmulR (by decide) (by decide)) ?_
    walk_at "sts"
    refine x_mod hl ?_
    exact k _ _ (Int.emod_nonneg _ (by omega)) (Int.emod_lt_of_pos _ hl) ((k1.trans k2).trans k3) W3
theorem cut_map (ns : List Int) (lo hi : Option Int) : ∃ ms : List Int, cutV (ns.map V.int) lo hi = ms.map V.int ∧ ms.length ≤ ns.length := by
  refine ⟨(ns.drop (HT.sIx (ns.map V.int).length 0 lo)).take (HT.sIx (ns.map V.int).length (ns.map V.int).length hi - HT.sIx (ns.map V.int).length 0 lo), ?_, ?_⟩
  · unfold cutV
    rw [List.map_take, List.map_drop]
  · rw [List.length_take, List.length_drop]
    omega
def sp__law_numbers (K : PySem.W.Frag) : Sp := fun vs H Q _ => ∃ (a : Addr) (ns : List Int), vs = [.ref a] ∧ SqL K H a (ns.map V.int) ∧ ns.length ≤ 63 ∧ ∀ p H' (rs : List Int), Same H H' → H p = none → H' p = some (.lst (rs.map V.int)) → rs ≠ [] → rs.length ≤ 4000 → Q (.ref p) H'
theorem ok__law_numbers {f : Addr} {fd : FuncData} (F : Fun K "_law_numbers" "_law_numbers" s__law_numbers f fd) (T : Txt K mg tk_COORDINATE_LIMIT tk_MOST_AXES)  : FnOk P w K mg base CX0 1 f fd ["script"] (sp__law_numbers K) := by
  refine F.ok sc__law_numbers (fun vs H Q E h => ?_) (fun cdv A outer s H vs Q E hr h => ?_)
  · obtain ⟨a, ns, rfl, _⟩ := h
    rfl
  · obtain ⟨a, ns, rfl, ha, hl, k⟩ := h
    refine ⟨_, d__law_numbers hr T , ?_⟩
    unfold t__law_numbers
    refine x_start (σ' := [some (.ref a), none, none, none, none, none]) rfl ?_
    walk_at "sts"
    refine x_mkl rfl (by decide) fun p hp => ?_
    walk_at "sts"
    have s1 : Same H (upd H p (.lst [])) := Same.new (Same.refl H) hp
    refine x_slL (s1.seq ha) fun c hc => ?_
    obtain ⟨ms, em, lm⟩ := cut_map ns none (some 63)
    rw [em]
    have pc : p ≠ c := Ne.symm (new_ne hc upd_same)
    have s2 : Same H (upd (upd H p (.lst [])) c (.lst (ms.map V.int))) := Same.new s1 hc
    have hc0 : H c = none := Same.none s1 hc
    refine x_loopL (xs := ms.map V.int) (SqL.of upd_same) (fun i σ H' => ∃ (rs : List Int) (x2 x3 x4 x5 : Option V), σ = [some (.ref a), some (.ref p), x2, x3, x4, x5] ∧ Same H H' ∧ H' p = some (.lst (rs.map V.int)) ∧ rs.length ≤ 60 * i ∧ H' c = some (.lst (ms.map V.int))) ?_ ?_ ?_ ?_
    · exact ⟨[], none, none, none, none, rfl, s2, upd_get hc upd_same, by simp, upd_same⟩
    · rintro i σ H' _ ⟨rs, x2, x3, x4, x5, rfl, h1, h2, h3, h4⟩
      exact SqL.of h4
    · rintro i x σ H' hx ⟨rs, x2, x3, x4, x5, rfl, h1, h2, h3, h4⟩
      obtain ⟨z, hz, rfl⟩ : ∃ z, ms[i]? = some z ∧ x = V.int z := by
        rw [List.getElem?_map] at hx
        cases e : ms[i]? with
        | none => rw [e] at hx; cases hx
        | some z => rw [e] at hx; exact ⟨z, rfl, (Option.some.inj hx).symm⟩
      have hi : i < 63 := by
        have := (List.getElem?_eq_some_iff.mp hz).1
        omega
      walk_at "sts"
      refine x_pow (by decide) ?_
      walk_at "sts"
      refine x_dec (fun g1 => ?_) (fun g1 => ?_)
      · walk_at "sts"
        refine x_rng 60 (by decide) rfl ?_
        refine x_loopR (fun j σ H2 => ∃ (rs : List Int) (l : Int) (x4 x5 : Option V), σ = [some (.ref a), some (.ref p), some (.int z), some (.int l), x4, x5] ∧ Same H H2 ∧ H2 p = some (.lst (rs.map V.int)) ∧ rs.length ≤ 60 * i + j ∧ H2 c = some (.lst (ms.map V.int))) ?_ ?_ ?_
        · exact ⟨rs, z, x4, x5, rfl, h1, h2, by omega, h4⟩
        · rintro j σ H2 hj ⟨rs, l, x4, x5, rfl, h1, h2, h3, h4⟩
          walk_at "sts"
          refine x_dec (fun g2 => ?_) (fun g2 => ?_)
          · walk_at "sts"
            exact ⟨rs, _, _, _, _, rfl, h1, h2, by omega, h4⟩
          · walk_at "sts"
            refine x_bmL h2 ?_
            walk_at "sts"
            refine x_mod (by decide) ?_
            walk_at "sts"
            refine x_app h2 (szl (by rw [List.length_map]; omega)) ?_
            walk_at "sts"
            refine x_fdv (by decide) ?_
            walk_at "sts"
            rw [map_snoc]
            exact ⟨_, _, _, _, rfl, Same.own h1 hp, upd_same, by simp; omega, upd_get' (Ne.symm pc) h4⟩
        · rintro σ H2 ⟨rs, l, x4, x5, rfl, h1, h2, h3, h4⟩
          exact ⟨rs, _, _, _, _, rfl, h1, h2, by omega, h4⟩
      · walk_at "sts"
        refine x_rng 4 (by decide) rfl ?_
        refine x_loopR (fun j σ H2 => ∃ (rs : List Int) (x3 x4 x5 : Option V), σ = [some (.ref a), some (.ref p), some (.int z), x3, x4, x5] ∧ Same H H2 ∧ H2 p = some (.lst (rs.map V.int)) ∧ rs.length ≤ 60 * i + j ∧ H2 c = some (.lst (ms.map V.int))) ?_ ?_ ?_
        · exact ⟨rs, x3, x4, x5, rfl, h1, h2, by omega, h4⟩
        · rintro j σ H2 hj ⟨rs, x3, x4, x5, rfl, h1, h2, h3, h4⟩
          walk_at "sts"
          refine x_mulI (cmulR (by decide) (by decide)) ?_
          walk_at "sts"
          refine x_mulI (cmulR (by decide) (by decide)) ?_
          walk_at "sts"
          refine x_mod (by decide) ?_
          walk_at "sts"
          refine x_bmL h2 ?_
          walk_at "sts"
          refine x_mulI (cmulR (by decide) (by decide)) ?_
          walk_at "sts"
          refine x_mod (by decide) ?_
          walk_at "sts"
          refine x_app h2 (szl (by rw [List.length_map]; omega)) ?_
          walk_at "sts"
          rw [map_snoc]
          exact ⟨_, _, _, _, rfl, Same.own h1 hp, upd_same, by simp; omega, upd_get' (Ne.symm pc) h4⟩
        · rintro σ H2 ⟨rs, x3, x4, x5, rfl, h1, h2, h3, h4⟩
          exact ⟨rs, _, _, _, _, rfl, h1, h2, by omega, h4⟩
    · rintro σ H' ⟨rs, x2, x3, x4, x5, rfl, h1, h2, h3, h4⟩
      rw [List.length_map] at h3
      refine x_cut (fun σ2 H2 => ∃ (rs : List Int), σ2 = [some (.ref a), some (.ref p), x2, x3, x4, x5] ∧ Same H H2 ∧ H2 p = some (.lst (rs.map V.int)) ∧ rs ≠ [] ∧ rs.length ≤ 4000) ?_ ?_
      · walk_at "sts"
        refine x_lenL h2 ?_
        walk_at "sts"
        rw [List.length_map]
        refine x_dec (fun g => ?_) (fun g => ?_)
        · have e : rs = [] := List.length_eq_zero_iff.mp (by omega)
          subst e
          walk_at "sts"
          refine x_bmL h2 ?_
          walk_at "sts"
          refine x_app h2 (szl (by simp)) ?_
          walk_at "sts"
          exact ⟨[0], rfl, Same.own h1 hp, upd_same, by simp, by simp⟩
        · walk_at "sts"
          exact ⟨rs, rfl, h1, h2, fun z => g (by rw [z]; rfl), by omega⟩
      · rintro σ2 H2 ⟨rs2, rfl, g1, g2, g3, g4⟩
        walk_at "sts"
        exact k p _ rs2 g1 hp g2 g3 g4
/-! ### so -/
theorem fn_void {f : Addr} {fd : FuncData} {ps : List Str} {sp : Sp} {k : Nat} (h : ∀ vs H Q E, ¬ sp vs H Q E) : FnOk P w K mg base CX0 k f fd ps sp :=
  ⟨fun vs H Q E z => (h vs H Q E z).elim, fun A outer s H args us vs Q E hr e0 hb r z => (h vs H Q E z).elim⟩
def sp__law_so (n : Nat) : Sp := fun vs H Q _ => ∃ (sp : List Addr) (v u : V) (d : Da), vs = [v, u] ∧ Rp sp H v d ∧ Rp sp H u d ∧ Dn n d ∧ Q (.bl true) H
theorem x_so {n : Nat} {H : Hp} {Q : VK} {E : XK} {sp : List Addr} {v u : V} {d : Da} (h1 : Rp sp H v d) (h2 : Rp sp H u d) (hn : Dn n d) (q : Q (.bl true) H) : sp__law_so n [v, u] H Q E := ⟨sp, v, u, d, rfl, h1, h2, hn, q⟩
theorem ok__law_so {f : Addr} {fd : FuncData} (F : Fun K "_law_so" "_law_so" s__law_so f fd) (T : Txt K mg tk_COORDINATE_LIMIT tk_MOST_AXES) (n : Nat) (O__law_so : Ok P w K mg base n "_law_so" ["found", "meant"] (sp__law_so n)) : FnOk P w K mg base CX0 (n + 1) f fd ["found", "meant"] (sp__law_so (n + 1)) := by
  refine F.ok sc__law_so (fun vs H Q E h => ?_) (fun cdv A outer s H vs Q E hr h => ?_)
  · obtain ⟨sp, v, u, d, rfl, _⟩ := h
    rfl
  · obtain ⟨sp, v, u, d, rfl, h1, h2, hn, k⟩ := h
    refine ⟨_, d__law_so hr T O__law_so, ?_⟩
    unfold t__law_so
    refine x_start (σ' := [some v, some u, none]) rfl ?_
    walk_at "sts"
    cases hn with
    | non =>
      cases h1.nonI; cases h2.nonI
      refine x_dec (fun _ => ?_) (fun z => absurd rfl z)
      walk_at "sts"
      rw [decide_eq_true rfl]
      exact k
    | bl b =>
      cases h1.blI; cases h2.blI
      refine x_dec (fun z => nomatch z) (fun _ => ?_)
      walk_at "sts"
      refine x_isaB h2 (by decide) (b := false) (by walk_at "isa") ?_
      walk_at "sts"
      refine x_isaB h2 (by decide) (b := true) (by walk_at "isa") ?_
      walk_at "sts"
      refine x_isaB h2 (by decide) (b := true) (by walk_at "isa") ?_
      walk_at "sts"
      refine x_isaB h1 (by decide) (b := true) (by walk_at "isa") ?_
      walk_at "sts"
      exact x_eqR rfl k
    | int i =>
      cases h1.intI; cases h2.intI
      refine x_dec (fun z => nomatch z) (fun _ => ?_)
      walk_at "sts"
      refine x_isaB h2 (by decide) (b := false) (by walk_at "isa") ?_
      walk_at "sts"
      refine x_isaB h2 (by decide) (b := false) (by walk_at "isa") ?_
      walk_at "sts"
      refine x_isaB h1 (by decide) (b := false) (by walk_at "isa") ?_
      walk_at "sts"
      refine x_isaB h2 (by decide) (b := true) (by walk_at "isa") ?_
      walk_at "sts"
      refine x_isaB h1 (by decide) (b := true) (by walk_at "isa") ?_
      walk_at "st"
      walk_at "st"
      walk_at "st"
      walk_at "st"
      walk_at "st"
      exact x_eqR rfl k
    | str x =>
      cases h1.strI; cases h2.strI
      refine x_dec (fun z => nomatch z) (fun _ => ?_)
      walk_at "sts"
      refine x_isaB h2 (by decide) (b := false) (by walk_at "isa") ?_
      walk_at "sts"
      refine x_isaB h2 (by decide) (b := false) (by walk_at "isa") ?_
      walk_at "sts"
      refine x_isaB h1 (by decide) (b := false) (by walk_at "isa") ?_
      walk_at "sts"
      refine x_isaB h2 (by decide) (b := false) (by walk_at "isa") ?_
      walk_at "sts"
      refine x_isaB h2 (by decide) (b := true) (by walk_at "isa") ?_
      walk_at "sts"
      refine x_isaB h1 (by decide) (b := true) (by walk_at "isa") ?_
      walk_at "sts"
      exact x_eqR rfl k
    | @tup _ ds hb hd =>
      obtain ⟨a1, xs, rfl, n1, e1, r1⟩ := h1.tupI
      obtain ⟨a2, ys, rfl, n2, e2, r2⟩ := h2.tupI
      refine x_dec (fun z => nomatch z) (fun _ => ?_)
      walk_at "sts"
      refine x_isaB h2 (by decide) (b := true) (by walk_at "isa") ?_
      walk_at "sts"
      refine x_isaB h1 (by decide) (b := true) (by walk_at "isa") ?_
      walk_at "sts"
      refine x_lenT e1 ?_
      walk_at "sts"
      refine x_lenT e2 ?_
      walk_at "sts"
      rw [r1.1, r2.1]
      refine x_ndec (fun z => absurd rfl z) (fun _ => ?_)
      walk_at "sts"
      refine x_lenT e2 ?_
      walk_at "sts"
      rw [r2.1]
      · refine x_rng ds.length (Nat.le_trans hb (by decide)) rfl ?_
        refine x_loopR (fun i σ H' => ∃ x, σ = [some (.ref a1), some (.ref a2), x] ∧ H' = H) ⟨none, rfl, rfl⟩ ?_ ?_
        · rintro i σ H' hi ⟨x, rfl, rfl⟩
          obtain ⟨y1, g1, p1⟩ := rps_get r1 (List.getElem?_eq_getElem hi)
          obtain ⟨y2, g2, p2⟩ := rps_get r2 (List.getElem?_eq_getElem hi)
          walk_at "sts"
          refine x_ixT e1 (at_of (j := i) rfl g1) ?_
          walk_at "sts"
          refine x_ixT e2 (at_of (j := i) rfl g2) ?_
          walk_at "sts"
          refine x_so p1 p2 (hd _ (List.getElem_mem hi)) ?_
          walk_at "sts"
          exact ⟨_, rfl, rfl⟩
        · rintro σ H' ⟨x, rfl, rfl⟩
          walk_at "sts"
          exact k
theorem rok__law_so {f : Addr} {fd : FuncData} (F : Fun K "_law_so" "_law_so" s__law_so f fd) (T : Txt K mg tk_COORDINATE_LIMIT tk_MOST_AXES) (m : mg "_law_so" = some (.ref f)) (b : Binds K fd ["found", "meant"] []) : ∀ n, Ok P w K mg base n "_law_so" ["found", "meant"] (sp__law_so n)
  | 0 => ⟨f, fd, fn_void fun vs H Q E ⟨sp, v, u, d, _, _, _, hn, _⟩ => (nomatch hn), m, F.kp, b⟩
  | n + 1 => ⟨f, fd, ok__law_so F T n (rok__law_so F T m b n), m, F.kp, b⟩
/-! ### listed, tupled -/
def sp__law_listed (n : Nat) : Sp := fun vs H Q _ => ∃ (sp : List Addr) (v : V) (d : Da), vs = [v] ∧ Rp sp H v d ∧ Dn n d ∧ Live sp H ∧ ∀ v' H', Same H H' → Rp sp H' v' d.listed → Q v' H'
theorem x_listed {n : Nat} {H : Hp} {Q : VK} {E : XK} {sp : List Addr} {v : V} {d : Da} (h1 : Rp sp H v d) (hn : Dn n d) (ho : Live sp H) (q : ∀ v' H', Same H H' → Rp sp H' v' d.listed → Q v' H') : sp__law_listed n [v] H Q E := ⟨sp, v, d, rfl, h1, hn, ho, q⟩
theorem ok__law_listed {f : Addr} {fd : FuncData} (F : Fun K "_law_listed" "_law_listed" s__law_listed f fd) (T : Txt K mg tk_COORDINATE_LIMIT tk_MOST_AXES) (n : Nat) (O__law_listed : Ok P w K mg base n "_law_listed" ["value"] (sp__law_listed n)) : FnOk P w K mg base CX0 (n + 1) f fd ["value"] (sp__law_listed (n + 1)) := by
  refine F.ok sc__law_listed (fun vs H Q E h => ?_) (fun cdv A outer s H vs Q E hr h => ?_)
  · obtain ⟨sp, v, d, rfl, _⟩ := h
    rfl
  · obtain ⟨sp, v, d, rfl, h1, hn, ho, k⟩ := h
    refine ⟨_, d__law_listed hr T O__law_listed, ?_⟩
    unfold t__law_listed
    refine x_start (σ' := [some v, none]) rfl ?_
    walk_at "sts"
    cases hn with
    | @tup _ ds hb hd =>
      refine x_isaB h1 (by decide) (b := true) (by walk_at "isa") ?_
      walk_at "sts"
      obtain ⟨a1, xs, rfl, n1, e1, r1⟩ := h1.tupI
      refine x_lcT (xs := xs) (SqT.of e1) (fun D i H' => Same H H' ∧ H D = none ∧ ∃ ys, H' D = some (.lst ys) ∧ ys.length ≤ i ∧ Rps (D :: sp) H' ys ((ds.take i).map Da.listed)) ?_ ?_ ?_ ?_
      · exact fun D hD => ⟨Same.new (Same.refl H) hD, hD, [], upd_same, Nat.le_refl _, Rps.nil⟩
      · exact fun D i H' _ ⟨s1, _⟩ => SqT.of (s1 _ _ e1)
      · rintro D i x H' hx ⟨s1, hD, ys, hy, hl, ry⟩
        obtain ⟨d, gd, rd⟩ := rps_at r1 hx
        have hi : i < ds.length := (List.getElem?_eq_some_iff.mp gd).1
        walk_at "sts"
        refine ⟨rfl, ?_⟩
        walk_at "sts"
        refine x_listed ((rd.grow hD).same s1) (hd _ (List.mem_of_getElem? gd)) ((ho.same s1).cons hy) fun v' H2 s2 r2 => ?_
        have hy2 := s2 _ _ hy
        refine ⟨ys, hy2, szl (by omega), Same.own (Same.trans s1 s2) hD, hD, _, upd_same, by simp; omega, ?_⟩
        have kk : Kp (D :: sp) H2 (upd H2 D (.lst (ys ++ [v']))) := Kp.refl.mut (List.mem_cons_self ..)
        have e : (ds.take (i + 1)).map Da.listed = (ds.take i).map Da.listed ++ [d.listed] := by
          rw [List.take_add_one, gd, List.map_append]
          rfl
        rw [e]
        exact rps_snoc (rps_kp (rps_same ry s2) kk) (r2.kp kk)
      · rintro D H' ⟨s1, hD, ys, hy, hl, ry⟩
        rw [r1.1, List.take_length] at ry
        refine k _ _ s1 ?_
        rw [listed_tup]
        exact rps_lst (rps_tail ry) (ho.new hD) hy
    | _ =>
      refine x_isaB h1 (by decide) (b := false) (by walk_at "isa") ?_
      walk_at "sts"
      exact k _ _ (Same.refl H) h1
theorem rok__law_listed {f : Addr} {fd : FuncData} (F : Fun K "_law_listed" "_law_listed" s__law_listed f fd) (T : Txt K mg tk_COORDINATE_LIMIT tk_MOST_AXES) (m : mg "_law_listed" = some (.ref f)) (b : Binds K fd ["value"] []) : ∀ n, Ok P w K mg base n "_law_listed" ["value"] (sp__law_listed n)
  | 0 => ⟨f, fd, fn_void fun vs H Q E ⟨sp, v, d, _, _, hn, _⟩ => (nomatch hn), m, F.kp, b⟩
  | n + 1 => ⟨f, fd, ok__law_listed F T n (rok__law_listed F T m b n), m, F.kp, b⟩
def sp__law_tupled (n : Nat) : Sp := fun vs H Q _ => ∃ (sp : List Addr) (v : V) (d d' : Da), vs = [v] ∧ Rp sp H v d' ∧ (d' = d ∨ d' = d.listed) ∧ Dn n d ∧ Live sp H ∧ ∀ v' H', Same H H' → Rp sp H' v' d → Q v' H'
theorem x_tupled {n : Nat} {H : Hp} {Q : VK} {E : XK} {sp : List Addr} {v : V} {d d' : Da} (h1 : Rp sp H v d') (hd : d' = d ∨ d' = d.listed) (hn : Dn n d) (ho : Live sp H) (q : ∀ v' H', Same H H' → Rp sp H' v' d → Q v' H') : sp__law_tupled n [v] H Q E := ⟨sp, v, d, d', rfl, h1, hd, hn, ho, q⟩
theorem ok__law_tupled {f : Addr} {fd : FuncData} (F : Fun K "_law_tupled" "_law_tupled" s__law_tupled f fd) (T : Txt K mg tk_COORDINATE_LIMIT tk_MOST_AXES) (n : Nat) (O__law_tupled : Ok P w K mg base n "_law_tupled" ["value"] (sp__law_tupled n)) : FnOk P w K mg base CX0 (n + 1) f fd ["value"] (sp__law_tupled (n + 1)) := by
  refine F.ok sc__law_tupled (fun vs H Q E h => ?_) (fun cdv A outer s H vs Q E hr h => ?_)
  · obtain ⟨sp, v, d, d', rfl, _⟩ := h
    rfl
  · obtain ⟨sp, v, d, d', rfl, h1, hdd, hn, ho, k⟩ := h
    refine ⟨_, d__law_tupled hr T O__law_tupled, ?_⟩
    unfold t__law_tupled
    refine x_start (σ' := [some v, none]) rfl ?_
    walk_at "sts"
    cases hn with
    | @tup _ ds hb hd =>
      rcases hdd with rfl | rfl
      · refine x_isaB h1 (by decide) (b := false) (by walk_at "isa") ?_
        walk_at "sts"
        refine x_isaB h1 (by decide) (b := true) (by walk_at "isa") ?_
        walk_at "sts"
        obtain ⟨a1, xs, rfl, n1, e1, r1⟩ := h1.tupI
        refine x_lcT (xs := xs) (SqT.of e1) (fun D i H' => Same H H' ∧ H D = none ∧ ∃ ys, H' D = some (.lst ys) ∧ ys.length ≤ i ∧ Rps (D :: sp) H' ys (ds.take i)) ?_ ?_ ?_ ?_
        · exact fun D hD => ⟨Same.new (Same.refl H) hD, hD, [], upd_same, Nat.le_refl _, Rps.nil⟩
        · exact fun D i H' _ ⟨s1, _⟩ => SqT.of (s1 _ _ e1)
        · rintro D i x H' hx ⟨s1, hD, ys, hy, hl, ry⟩
          obtain ⟨d, gd, rd⟩ := rps_at r1 hx
          have hi : i < ds.length := (List.getElem?_eq_some_iff.mp gd).1
          walk_at "sts"
          refine ⟨rfl, ?_⟩
          walk_at "sts"
          refine x_tupled ((rd.grow hD).same s1) (.inl rfl) (hd _ (List.mem_of_getElem? gd)) ((ho.same s1).cons hy) fun v' H2 s2 r2 => ?_
          have hy2 := s2 _ _ hy
          refine ⟨ys, hy2, szl (by omega), Same.own (Same.trans s1 s2) hD, hD, _, upd_same, by simp; omega, ?_⟩
          have kk : Kp (D :: sp) H2 (upd H2 D (.lst (ys ++ [v']))) := Kp.refl.mut (List.mem_cons_self ..)
          have e : ds.take (i + 1) = ds.take i ++ [d] := by
            rw [List.take_add_one, gd]
            rfl
          rw [e]
          exact rps_snoc (rps_kp (rps_same ry s2) kk) (r2.kp kk)
        · rintro D H' ⟨s1, hD, ys, hy, hl, ry⟩
          rw [r1.1, List.take_length] at ry
          walk_at "sts"
          refine x_tupL (SqL.of hy) fun l hl => ?_
          refine k _ _ (Same.new s1 hl) ?_
          exact rps_tup (rps_same (rps_tail ry) (Same.new (Same.refl _) hl)) ((ho.same s1).new hl) upd_same
      · rw [listed_tup] at h1
        refine x_isaB h1 (by decide) (b := true) (by walk_at "isa") ?_
        walk_at "sts"
        obtain ⟨a1, xs, rfl, n1, e1, r1⟩ := h1.lstI
        refine x_lcL (xs := xs) (SqL.of e1) (fun D i H' => Same H H' ∧ H D = none ∧ ∃ ys, H' D = some (.lst ys) ∧ ys.length ≤ i ∧ Rps (D :: sp) H' ys (ds.take i)) ?_ ?_ ?_ ?_
        · exact fun D hD => ⟨Same.new (Same.refl H) hD, hD, [], upd_same, Nat.le_refl _, Rps.nil⟩
        · exact fun D i H' _ ⟨s1, _⟩ => SqL.of (s1 _ _ e1)
        · rintro D i x H' hx ⟨s1, hD, ys, hy, hl, ry⟩
          obtain ⟨d, gd, rd⟩ := rps_at r1 hx
          rw [List.getElem?_map] at gd
          obtain ⟨d0, gd0, rfl⟩ := Option.map_eq_some_iff.mp gd
          have hi : i < ds.length := (List.getElem?_eq_some_iff.mp gd0).1
          walk_at "sts"
          refine ⟨rfl, ?_⟩
          walk_at "sts"
          refine x_tupled ((rd.grow hD).same s1) (.inr rfl) (hd _ (List.mem_of_getElem? gd0)) ((ho.same s1).cons hy) fun v' H2 s2 r2 => ?_
          have hy2 := s2 _ _ hy
          refine ⟨ys, hy2, szl (by omega), Same.own (Same.trans s1 s2) hD, hD, _, upd_same, by simp; omega, ?_⟩
          have kk : Kp (D :: sp) H2 (upd H2 D (.lst (ys ++ [v']))) := Kp.refl.mut (List.mem_cons_self ..)
          have e : ds.take (i + 1) = ds.take i ++ [d0] := by
            rw [List.take_add_one, gd0]
            rfl
          rw [e]
          exact rps_snoc (rps_kp (rps_same ry s2) kk) (r2.kp kk)
        · rintro D H' ⟨s1, hD, ys, hy, hl, ry⟩
          rw [r1.1, List.length_map, List.take_length] at ry
          walk_at "sts"
          refine x_tupL (SqL.of hy) fun l hl => ?_
          refine k _ _ (Same.new s1 hl) ?_
          exact rps_tup (rps_same (rps_tail ry) (Same.new (Same.refl _) hl)) ((ho.same s1).new hl) upd_same
    | _ =>
      have e : d' = _ := hdd.elim id fun z => z
      subst e
      refine x_isaB h1 (by decide) (b := false) (by walk_at "isa") ?_
      walk_at "sts"
      refine x_isaB h1 (by decide) (b := false) (by walk_at "isa") ?_
      walk_at "sts"
      exact k _ _ (Same.refl H) h1
theorem rok__law_tupled {f : Addr} {fd : FuncData} (F : Fun K "_law_tupled" "_law_tupled" s__law_tupled f fd) (T : Txt K mg tk_COORDINATE_LIMIT tk_MOST_AXES) (m : mg "_law_tupled" = some (.ref f)) (b : Binds K fd ["value"] []) : ∀ n, Ok P w K mg base n "_law_tupled" ["value"] (sp__law_tupled n)
  | 0 => ⟨f, fd, fn_void fun vs H Q E ⟨sp, v, d, d', _, _, _, hn, _⟩ => (nomatch hn), m, F.kp, b⟩
  | n + 1 => ⟨f, fd, ok__law_tupled F T n (rok__law_tupled F T m b n), m, F.kp, b⟩
/-! ### the law's boxes -/
def pairD (p : Int × Int) : Da := .tup [.int p.1, .int p.2]
def bxD (bx : List (Int × Int)) : Da := .tup (bx.map pairD)
def sp__law_clip : Sp := fun vs H Q _ => ∃ z : Int, vs = [.int z] ∧ ∀ r, -1000000 ≤ r → r ≤ 1000000 → Q (.int r) H
theorem x_clip {z : Int} {H : Hp} {Q : VK} {E : XK} (q : ∀ r, -1000000 ≤ r → r ≤ 1000000 → Q (.int r) H) : sp__law_clip [.int z] H Q E := ⟨z, rfl, q⟩
theorem ok__law_clip {f : Addr} {fd : FuncData} (F : Fun K "_law_clip" "_law_clip" s__law_clip f fd) (T : Txt K mg tk_COORDINATE_LIMIT tk_MOST_AXES)  : FnOk P w K mg base CX0 1 f fd ["number"] sp__law_clip := by
  refine F.ok sc__law_clip (fun vs H Q E h => ?_) (fun cdv A outer s H vs Q E hr h => ?_)
  · obtain ⟨z, rfl, _⟩ := h
    rfl
  · obtain ⟨z, rfl, k⟩ := h
    refine ⟨_, d__law_clip hr T , ?_⟩
    unfold t__law_clip
    refine x_start (σ' := [some (.int z)]) rfl ?_
    walk_at "sts"
    refine k _ ?_ ?_ <;> (split <;> split <;> omega)
def sp__law_extent : Sp := fun vs H Q _ => ∃ (row sp : Addr) (st : Int), vs = [.ref row, .ref sp, .int st] ∧ Wd H row sp ∧ ∀ r H', 0 ≤ r → r ≤ 2000000 → Kp [sp] H H' → Wd H' row sp → Q (.int r) H'
theorem x_extent {row sp : Addr} {st : Int} {H : Hp} {Q : VK} {E : XK} (W : Wd H row sp) (q : ∀ r H', 0 ≤ r → r ≤ 2000000 → Kp [sp] H H' → Wd H' row sp → Q (.int r) H') : sp__law_extent [.ref row, .ref sp, .int st] H Q E := ⟨row, sp, st, rfl, W, q⟩
theorem ok__law_extent {f : Addr} {fd : FuncData} (F : Fun K "_law_extent" "_law_extent" s__law_extent f fd) (T : Txt K mg tk_COORDINATE_LIMIT tk_MOST_AXES) (O__law_take : Ok P w K mg base 2 "_law_take" ["row", "spot", "limit"] (sp__law_take)) (O__law_wide : Ok P w K mg base 3 "_law_wide" ["row", "spot", "limit"] (sp__law_wide)) : FnOk P w K mg base CX0 4 f fd ["row", "spot", "style"] sp__law_extent := by
  refine F.ok sc__law_extent (fun vs H Q E h => ?_) (fun cdv A outer s H vs Q E hr h => ?_)
  · obtain ⟨row, sp, st, rfl, _⟩ := h
    rfl
  · obtain ⟨row, sp, st, rfl, W, k⟩ := h
    refine ⟨_, d__law_extent hr T O__law_take O__law_wide, ?_⟩
    unfold t__law_extent
    refine x_start (σ' := [some (.ref row), some (.ref sp), some (.int st)]) rfl ?_
    walk_at "sts"
    refine x_take W (by decide) fun r1 H1 a1 b1 k1 W1 => ?_
    walk_at "sts"
    refine x_dec (fun _ => ?_) (fun _ => ?_)
    · walk_at "sts"
      exact k _ _ (by decide) (by decide) k1 W1
    · walk_at "sts"
      refine x_dec (fun _ => ?_) (fun _ => ?_)
      · walk_at "sts"
        refine x_take W1 (by decide) fun r2 H2 a2 b2 k2 W2 => ?_
        walk_at "sts"
        refine x_dec (fun _ => ?_) (fun _ => ?_)
        · walk_at "sts"
          refine x_wide W2 (by decide) fun r3 H3 a3 b3 k3 W3 => ?_
          exact k _ _ a3 (by omega) ((k1.trans k2).trans k3) W3
        · walk_at "sts"
          refine x_take W2 (by decide) fun r3 H3 a3 b3 k3 W3 => ?_
          exact k _ _ a3 (by omega) ((k1.trans k2).trans k3) W3
      · walk_at "sts"
        refine x_take W1 (by decide) fun r3 H3 a3 b3 k3 W3 => ?_
        exact k _ _ a3 (by omega) (k1.trans k3) W3
def sp__law_style : Sp := fun vs H Q _ => ∃ (row sp : Addr), vs = [.ref row, .ref sp] ∧ Wd H row sp ∧ ∀ r H', 0 ≤ r → r < 3 → Kp [sp] H H' → Wd H' row sp → Q (.int r) H'
theorem x_style {row sp : Addr} {H : Hp} {Q : VK} {E : XK} (W : Wd H row sp) (q : ∀ r H', 0 ≤ r → r < 3 → Kp [sp] H H' → Wd H' row sp → Q (.int r) H') : sp__law_style [.ref row, .ref sp] H Q E := ⟨row, sp, rfl, W, q⟩
theorem ok__law_style {f : Addr} {fd : FuncData} (F : Fun K "_law_style" "_law_style" s__law_style f fd) (T : Txt K mg tk_COORDINATE_LIMIT tk_MOST_AXES) (O__law_take : Ok P w K mg base 2 "_law_take" ["row", "spot", "limit"] (sp__law_take)) : FnOk P w K mg base CX0 3 f fd ["row", "spot"] sp__law_style := by
  refine F.ok sc__law_style (fun vs H Q E h => ?_) (fun cdv A outer s H vs Q E hr h => ?_)
  · obtain ⟨row, sp, rfl, _⟩ := h
    rfl
  · obtain ⟨row, sp, rfl, W, k⟩ := h
    refine ⟨_, d__law_style hr T O__law_take, ?_⟩
    unfold t__law_style
    refine x_start (σ' := [some (.ref row), some (.ref sp)]) rfl ?_
    walk_at "sts"
    refine x_mkl rfl (by decide) fun p hp => ?_
    walk_at "sts"
    refine x_take (W.new hp) (by decide) fun r1 H1 a1 b1 k1 W1 => ?_
    have hs := W.sp_ne hp
    have e1 := k1 _ _ (not1 hs) upd_same
    have hr : r1 = 0 ∨ r1 = 1 ∨ r1 = 2 ∨ r1 = 3 ∨ r1 = 4 := by omega
    have kk : Kp [sp] H H1 := (Kp.refl.new hp).trans k1
    rcases hr with rfl | rfl | rfl | rfl | rfl
    · exact x_ixL e1 rfl (k _ _ (by decide) (by decide) kk W1)
    · exact x_ixL e1 rfl (k _ _ (by decide) (by decide) kk W1)
    · exact x_ixL e1 rfl (k _ _ (by decide) (by decide) kk W1)
    · exact x_ixL e1 rfl (k _ _ (by decide) (by decide) kk W1)
    · exact x_ixL e1 rfl (k _ _ (by decide) (by decide) kk W1)
theorem at3 {a b c : V} {i : Int} (h0 : 0 ≤ i) (h1 : i < 3) : atI [a, b, c] i = some (if i = 0 then a else if i = 1 then b else c) := by
  have h : i = 0 ∨ i = 1 ∨ i = 2 := by omega
  rcases h with rfl | rfl | rfl <;> rfl
def sp__law_middle : Sp := fun vs H Q _ => ∃ (row sp : Addr) (n : Nat) (st : Int), vs = [.ref row, .ref sp, .int (n : Int), .int st] ∧ Wd H row sp ∧ n ≤ 1000 ∧ 0 ≤ st ∧ st < 3 ∧ ∀ p H' (ms : List Int), Kp [sp] H H' → Wd H' row sp → H p = none → H' p = some (.lst (ms.map V.int)) → ms.length = n → Q (.ref p) H'
theorem x_middle {row sp : Addr} {n : Nat} {st z : Int} {H : Hp} {Q : VK} {E : XK} (hz : z = (n : Int)) (W : Wd H row sp) (hn : n ≤ 1000) (h0 : 0 ≤ st) (h1 : st < 3) (q : ∀ p H' (ms : List Int), Kp [sp] H H' → Wd H' row sp → H p = none → H' p = some (.lst (ms.map V.int)) → ms.length = n → Q (.ref p) H') : sp__law_middle [.ref row, .ref sp, .int z, .int st] H Q E := by
  subst hz
  exact ⟨row, sp, n, st, rfl, W, hn, h0, h1, q⟩
theorem ok__law_middle {f : Addr} {fd : FuncData} (F : Fun K "_law_middle" "_law_middle" s__law_middle f fd) (T : Txt K mg tk_COORDINATE_LIMIT tk_MOST_AXES) (O__law_take : Ok P w K mg base 2 "_law_take" ["row", "spot", "limit"] (sp__law_take)) (O__law_wide : Ok P w K mg base 3 "_law_wide" ["row", "spot", "limit"] (sp__law_wide)) : FnOk P w K mg base CX0 4 f fd ["row", "spot", "axes", "style"] sp__law_middle := by
  refine F.ok sc__law_middle (fun vs H Q E h => ?_) (fun cdv A outer s H vs Q E hr h => ?_)
  · obtain ⟨row, sp, n, st, rfl, _⟩ := h
    rfl
  · obtain ⟨row, sp, n, st, rfl, W, hn, h0, h1, k⟩ := h
    refine ⟨_, d__law_middle hr T O__law_take O__law_wide, ?_⟩
    unfold t__law_middle
    refine x_start (σ' := [some (.ref row), some (.ref sp), some (.int (n : Int)), some (.int st), none, none, none]) rfl ?_
    walk_at "sts"
    refine x_mkl rfl (by decide) fun p hp => ?_
    walk_at "sts"
    have ps := W.sp_ne hp
    have pr := W.row_ne hp
    refine x_rng n (Nat.le_trans hn (by decide)) rfl ?_
    refine x_loopR (fun i σ H' => ∃ (ms : List Int) (x5 x6 : Option V), σ = [some (.ref row), some (.ref sp), some (.int (n : Int)), some (.int st), some (.ref p), x5, x6] ∧ Kp [sp] H H' ∧ Wd H' row sp ∧ H' p = some (.lst (ms.map V.int)) ∧ ms.length = i) ?_ ?_ ?_
    · exact ⟨[], none, none, rfl, Kp.refl.new hp, W.new hp, upd_same, rfl⟩
    · rintro i σ H' hi ⟨ms, x5, x6, rfl, kp, W', e', l'⟩
      walk_at "sts"
      refine x_wide W' (by decide) fun r1 H1 a1 b1 k1 W1 => ?_
      walk_at "sts"
      refine x_bmL (k1 _ _ (not1 ps) e') ?_
      walk_at "sts"
      refine x_take W1 (by decide) fun r2 H2 a2 b2 k2 W2 => ?_
      walk_at "sts"
      refine x_mulI (cmulL (by decide) (by decide)) ?_
      walk_at "sts"
      have e2 := k2 _ _ (not1 ps) (k1 _ _ (not1 ps) e')
      have fin : ∀ z : Int, ∃ ms' : List Int, ms.map V.int ++ [V.int z] = ms'.map V.int ∧ ms'.length = i + 1 := fun z => ⟨ms ++ [z], map_snoc _ _, by simp [l']⟩
      refine x_dec (fun _ => ?_) (fun _ => ?_)
      · walk_at "sts"
        refine x_mkl (m := 3) rfl (by decide) fun q hq => ?_
        walk_at "sts"
        refine x_ixL upd_same (at3 h0 h1) ?_
        have e3 : ∀ o, upd H2 q o p = some (.lst (ms.map V.int)) := fun o => upd_get hq e2
        have fin2 : ∀ (z : Int) (o : HO), ∃ (ms' : List Int), upd (upd H2 q o) p (.lst (ms.map V.int ++ [V.int z])) p = some (.lst (ms'.map V.int)) ∧ ms'.length = i + 1 := fun z o => by
          obtain ⟨ms', q1, q2⟩ := fin z
          exact ⟨ms', by rw [q1]; exact upd_same, q2⟩
        have W3 : ∀ o o', Wd (upd (upd H2 q o) p o') row sp := fun o o' => (W2.new hq).own ps pr
        have K3 : ∀ o o', Kp [sp] H (upd (upd H2 q o) p o') := fun o o' => (((kp.trans k1).trans k2).new hq).own hp
        have hsz : (ms.map V.int).length < sizeLine := szl (by rw [List.length_map]; omega)
        by_cases c0 : st = 0
        · rw [if_pos c0]
          walk_at "sts"
          refine x_app (e3 _) hsz ?_
          obtain ⟨ms', q1, q2⟩ := fin2 _ _
          exact ⟨ms', _, _, rfl, K3 _ _, W3 _ _, q1, q2⟩
        · rw [if_neg c0]
          by_cases c1 : st = 1
          · rw [if_pos c1]
            walk_at "sts"
            refine x_app (e3 _) hsz ?_
            obtain ⟨ms', q1, q2⟩ := fin2 _ _
            exact ⟨ms', _, _, rfl, K3 _ _, W3 _ _, q1, q2⟩
          · rw [if_neg c1]
            walk_at "sts"
            refine x_app (e3 _) hsz ?_
            obtain ⟨ms', q1, q2⟩ := fin2 _ _
            exact ⟨ms', _, _, rfl, K3 _ _, W3 _ _, q1, q2⟩
      · walk_at "sts"
        refine x_mkl (m := 3) rfl (by decide) fun q hq => ?_
        walk_at "sts"
        refine x_ixL upd_same (at3 h0 h1) ?_
        have e3 : ∀ o, upd H2 q o p = some (.lst (ms.map V.int)) := fun o => upd_get hq e2
        have fin2 : ∀ (z : Int) (o : HO), ∃ (ms' : List Int), upd (upd H2 q o) p (.lst (ms.map V.int ++ [V.int z])) p = some (.lst (ms'.map V.int)) ∧ ms'.length = i + 1 := fun z o => by
          obtain ⟨ms', q1, q2⟩ := fin z
          exact ⟨ms', by rw [q1]; exact upd_same, q2⟩
        have W3 : ∀ o o', Wd (upd (upd H2 q o) p o') row sp := fun o o' => (W2.new hq).own ps pr
        have K3 : ∀ o o', Kp [sp] H (upd (upd H2 q o) p o') := fun o o' => (((kp.trans k1).trans k2).new hq).own hp
        have hsz : (ms.map V.int).length < sizeLine := szl (by rw [List.length_map]; omega)
        by_cases c0 : st = 0
        · rw [if_pos c0]
          walk_at "sts"
          refine x_app (e3 _) hsz ?_
          obtain ⟨ms', q1, q2⟩ := fin2 _ _
          exact ⟨ms', _, _, rfl, K3 _ _, W3 _ _, q1, q2⟩
        · rw [if_neg c0]
          by_cases c1 : st = 1
          · rw [if_pos c1]
            walk_at "sts"
            refine x_app (e3 _) hsz ?_
            obtain ⟨ms', q1, q2⟩ := fin2 _ _
            exact ⟨ms', _, _, rfl, K3 _ _, W3 _ _, q1, q2⟩
          · rw [if_neg c1]
            walk_at "sts"
            refine x_app (e3 _) hsz ?_
            obtain ⟨ms', q1, q2⟩ := fin2 _ _
            exact ⟨ms', _, _, rfl, K3 _ _, W3 _ _, q1, q2⟩
    · rintro σ H' ⟨ms, x5, x6, rfl, kp, W', e', l'⟩
      walk_at "sts"
      exact k p H' ms kp W' hp e' l'
/-- a box in the range -/
def Bok (bx : List (Int × Int)) : Prop := ∀ p, p ∈ bx → -1000000 ≤ p.1 ∧ p.1 ≤ p.2 ∧ p.2 ≤ 1000000
def sp__law_box : Sp := fun vs H Q _ => ∃ (row sp m : Addr) (st : Int) (ms : List Int), vs = [.ref row, .ref sp, .int st, .ref m] ∧ Wd H row sp ∧ m ≠ sp ∧ H m = some (.lst (ms.map V.int)) ∧ ms.length ≤ 1000 ∧ ∀ v H' bx, Kp [sp] H H' → Wd H' row sp → Rp [sp] H' v (bxD bx) → Bok bx → bx.length = ms.length → Q v H'
theorem x_box {row sp m : Addr} {st : Int} {ms : List Int} {H : Hp} {Q : VK} {E : XK} (W : Wd H row sp) (hm : m ≠ sp) (e : H m = some (.lst (ms.map V.int))) (hl : ms.length ≤ 1000) (q : ∀ v H' bx, Kp [sp] H H' → Wd H' row sp → Rp [sp] H' v (bxD bx) → Bok bx → bx.length = ms.length → Q v H') : sp__law_box [.ref row, .ref sp, .int st, .ref m] H Q E :=
  ⟨row, sp, m, st, ms, rfl, W, hm, e, hl, q⟩
theorem ok__law_box {f : Addr} {fd : FuncData} (F : Fun K "_law_box" "_law_box" s__law_box f fd) (T : Txt K mg tk_COORDINATE_LIMIT tk_MOST_AXES) (O__law_clip : Ok P w K mg base 1 "_law_clip" ["number"] (sp__law_clip)) (O__law_extent : Ok P w K mg base 4 "_law_extent" ["row", "spot", "style"] (sp__law_extent)) (O__law_take : Ok P w K mg base 2 "_law_take" ["row", "spot", "limit"] (sp__law_take)) : FnOk P w K mg base CX0 5 f fd ["row", "spot", "style", "middle"] sp__law_box := by
  refine F.ok sc__law_box (fun vs H Q E h => ?_) (fun cdv A outer s H vs Q E hr h => ?_)
  · obtain ⟨row, sp, m, st, ms, rfl, _⟩ := h
    rfl
  · obtain ⟨row, sp, m, st, ms, rfl, W, hm, em, hl, k⟩ := h
    refine ⟨_, d__law_box hr T O__law_clip O__law_extent O__law_take, ?_⟩
    unfold t__law_box
    refine x_start (σ' := [some (.ref row), some (.ref sp), some (.int st), some (.ref m), none, none, none]) rfl ?_
    walk_at "sts"
    refine x_mkl rfl (by decide) fun p hp => ?_
    walk_at "sts"
    have ps := W.sp_ne hp
    have pr := W.row_ne hp
    refine x_lenL (upd_get hp em) ?_
    walk_at "sts"
    rw [List.length_map]
    refine x_rng ms.length (Nat.le_trans hl (by decide)) rfl ?_
    refine x_loopR (fun i σ H' => ∃ (bx : List (Int × Int)) (xs : List V) (x5 x6 : Option V), σ = [some (.ref row), some (.ref sp), some (.int st), some (.ref m), some (.ref p), x5, x6] ∧ Kp [sp] H H' ∧ Wd H' row sp ∧ H' p = some (.lst xs) ∧ Rps [p, sp] H' xs (bx.map pairD) ∧ bx.length = i ∧ Bok bx) ?_ ?_ ?_
    · exact ⟨[], [], none, none, rfl, Kp.refl.new hp, W.new hp, upd_same, Rps.nil, rfl, fun p h => nomatch h⟩
    · rintro i σ H' hi ⟨bx, xs, x5, x6, rfl, kp, W', e', r', l', b'⟩
      walk_at "sts"
      refine x_ixL (kp _ _ (not1 hm) em) (v := .int ms[i]) (at_of (j := i) rfl (ints_at (List.getElem?_eq_getElem hi))) ?_
      walk_at "sts"
      refine x_take W' (by decide) fun r1 H1 a1 b1 k1 W1 => ?_
      walk_at "sts"
      refine x_clip fun lo c1 c2 => ?_
      walk_at "sts"
      have e1 := k1 _ _ (not1 ps) e'
      refine x_bmL e1 ?_
      walk_at "sts"
      refine x_extent W1 fun r2 H2 a2 b2 k2 W2 => ?_
      walk_at "sts"
      refine x_mkt (m := 2) rfl (by decide) fun q hq => ?_
      walk_at "sts"
      have e2 := k2 _ _ (not1 ps) e1
      have hxl : xs.length = i := by rw [r'.1, List.length_map, l']
      refine x_app (upd_get hq e2) (szl (by omega)) ?_
      have K1 : Kp [p, sp] H' H2 := (k1.trans k2).more
      have hqp : q ∉ [p, sp] := fun z => by
        rcases List.mem_cons.mp z with rfl | z
        · rw [hq] at e2; cases e2
        · exact not1 (W2.sp_ne hq) z
      have R2 : Rps [p, sp] (upd (upd H2 q (.tup [.int lo, .int (if lo + r2 < 1000000 then lo + r2 else 1000000)])) p (.lst (xs ++ [.ref q]))) (xs ++ [.ref q]) ((bx ++ [(lo, if lo + r2 < 1000000 then lo + r2 else 1000000)]).map pairD) := by
        have kk : Kp [p, sp] H2 (upd (upd H2 q (.tup [.int lo, .int (if lo + r2 < 1000000 then lo + r2 else 1000000)])) p (.lst (xs ++ [.ref q]))) := (Kp.refl.new hq).mut (List.mem_cons_self ..)
        rw [List.map_append]
        refine rps_snoc (rps_kp r' (K1.trans kk)) ?_
        refine rps_tup (xs := [.int lo, .int (if lo + r2 < 1000000 then lo + r2 else 1000000)]) (Rps.cons (.int _) (Rps.cons (.int _) Rps.nil)) hqp ?_
        exact upd_get' (fun z => hqp (by rw [z]; exact List.mem_cons_self ..)) upd_same
      refine ⟨_, _, _, _, rfl, ((kp.trans (k1.trans k2)).new hq).own hp, (W2.new hq).own ps pr, upd_same, R2, by simp [l'], fun z hz => ?_⟩
      rcases List.mem_append.mp hz with hz | hz
      · exact b' z hz
      · rw [List.mem_singleton.mp hz]
        refine ⟨c1, ?_, ?_⟩
        · show lo ≤ if lo + r2 < 1000000 then lo + r2 else 1000000
          split <;> omega
        · show (if lo + r2 < 1000000 then lo + r2 else 1000000) ≤ 1000000
          split <;> omega
    · rintro σ H' ⟨bx, xs, x5, x6, rfl, kp, W', e', r', l', b'⟩
      walk_at "sts"
      refine x_tupL (SqL.of e') fun l hl2 => ?_
      refine k _ _ bx (kp.new hl2) (W'.new hl2) ?_ b' l'
      exact rps_tup (rps_same (rps_tail r') (Same.new (Same.refl _) hl2)) (not1 (W'.sp_ne hl2)) upd_same
def sp__law_handed : Sp := fun vs H Q _ => ∃ (row sp : Addr) (v : V) (d : Da), vs = [.ref row, .ref sp, v] ∧ Wd H row sp ∧ Rp [sp] H v d ∧ Dn 3 d ∧ ∀ v' H' d', Kp [sp] H H' → Wd H' row sp → (d' = d ∨ d' = d.listed) → Rp [sp] H' v' d' → Q v' H'
theorem x_handed {row sp : Addr} {v : V} {d : Da} {H : Hp} {Q : VK} {E : XK} (W : Wd H row sp) (h : Rp [sp] H v d) (hn : Dn 3 d) (q : ∀ v' H' d', Kp [sp] H H' → Wd H' row sp → (d' = d ∨ d' = d.listed) → Rp [sp] H' v' d' → Q v' H') : sp__law_handed [.ref row, .ref sp, v] H Q E := ⟨row, sp, v, d, rfl, W, h, hn, q⟩
theorem ok__law_handed {f : Addr} {fd : FuncData} (F : Fun K "_law_handed" "_law_handed" s__law_handed f fd) (T : Txt K mg tk_COORDINATE_LIMIT tk_MOST_AXES) (O__law_listed : Ok P w K mg base 3 "_law_listed" ["value"] (sp__law_listed 3)) (O__law_take : Ok P w K mg base 2 "_law_take" ["row", "spot", "limit"] (sp__law_take)) : FnOk P w K mg base CX0 4 f fd ["row", "spot", "value"] sp__law_handed := by
  refine F.ok sc__law_handed (fun vs H Q E h => ?_) (fun cdv A outer s H vs Q E hr h => ?_)
  · obtain ⟨row, sp, v, d, rfl, _⟩ := h
    rfl
  · obtain ⟨row, sp, v, d, rfl, W, h1, hn, k⟩ := h
    refine ⟨_, d__law_handed hr T O__law_listed O__law_take, ?_⟩
    unfold t__law_handed
    refine x_start (σ' := [some (.ref row), some (.ref sp), some v]) rfl ?_
    walk_at "sts"
    refine x_take W (by decide) fun r1 H1 a1 b1 k1 W1 => ?_
    walk_at "sts"
    refine x_dec (fun _ => ?_) (fun _ => ?_)
    · walk_at "sts"
      exact x_listed (h1.kp k1) hn W1.live fun v' H2 s2 r2 => k _ _ _ (k1.same s2) (W1.same s2) (.inr rfl) r2
    · walk_at "sts"
      exact k _ _ _ k1 W1 (.inl rfl) (h1.kp k1)
/-! ### the program's kinds -/
def Da.isInt : Da → Bool
  | .int _ => true
  | _ => false
def Da.isSeq : Da → Bool
  | .tup _ => true
  | .lst _ => true
  | _ => false
def Da.isCo : Da → Bool
  | .int i => decide (-1000000 ≤ i) && decide (i ≤ 1000000)
  | _ => false
def Da.le : Da → Da → Bool
  | .int i, .int j => decide (i ≤ j)
  | _, _ => false
def prL : List Da → Bool
  | [a, b] => a.isCo && (b.isCo && a.le b)
  | _ => false
def Da.isPr : Da → Bool
  | .tup l => prL l
  | .lst l => prL l
  | _ => false
def bxL (l : List Da) : Bool := decide (1 ≤ (l.length : Int)) && decide ((l.length : Int) ≤ 4) && (l.map Da.isPr).all id
def Da.isBx : Da → Bool
  | .tup l => bxL l
  | .lst l => bxL l
  | _ => false
theorem Da.seq_or (d : Da) : (∃ ds, d.seq ds) ∨ (d.isSeq = false ∧ d.isPr = false ∧ d.isBx = false) := by
  cases d with
  | tup l => exact .inl ⟨l, .inl rfl⟩
  | lst l => exact .inl ⟨l, .inr rfl⟩
  | _ => exact .inr ⟨rfl, rfl, rfl⟩
theorem Da.seq_is {d : Da} {ds : List Da} (h : d.seq ds) : d.isSeq = true ∧ d.isPr = prL ds ∧ d.isBx = bxL ds := by
  rcases h with rfl | rfl <;> exact ⟨rfl, rfl, rfl⟩
def sp_is_integer : Sp := fun vs H Q _ => ∃ (ex : List Addr) (v : V) (d : Da), vs = [v] ∧ Rp ex H v d ∧ Q (.bl d.isInt) H
theorem ok_is_integer {f : Addr} {fd : FuncData} (F : Fun K "is_integer" "is_integer" s_is_integer f fd) (T : Txt K mg tk_COORDINATE_LIMIT tk_MOST_AXES)  : FnOk P w K mg base CX0 1 f fd ["value"] sp_is_integer := by
  refine F.ok sc_is_integer (fun vs H Q E h => ?_) (fun cdv A outer s H vs Q E hr h => ?_)
  · obtain ⟨ex, v, d, rfl, _⟩ := h
    rfl
  · obtain ⟨ex, v, d, rfl, h, k⟩ := h
    refine ⟨_, d_is_integer hr T , ?_⟩
    unfold t_is_integer
    refine x_start (σ' := [some v]) rfl ?_
    walk_at "sts"
    cases d with
    | int i =>
      refine x_isaB h (by decide) (b := true) (by walk_at "isa") ?_
      walk_at "sts"
      refine x_isaB h (by decide) (b := false) (by walk_at "isa") ?_
      walk_at "sts"
      exact k
    | bl b =>
      refine x_isaB h (by decide) (b := true) (by walk_at "isa") ?_
      walk_at "sts"
      refine x_isaB h (by decide) (b := true) (by walk_at "isa") ?_
      walk_at "sts"
      exact k
    | _ =>
      refine x_isaB h (by decide) (b := false) (by walk_at "isa") ?_
      walk_at "sts"
      exact k
def sp_is_sequence : Sp := fun vs H Q _ => ∃ (ex : List Addr) (v : V) (d : Da), vs = [v] ∧ Rp ex H v d ∧ ∀ H', Same H H' → Q (.bl d.isSeq) H'
theorem ok_is_sequence {f : Addr} {fd : FuncData} (F : Fun K "is_sequence" "is_sequence" s_is_sequence f fd) (T : Txt K mg tk_COORDINATE_LIMIT tk_MOST_AXES)  : FnOk P w K mg base CX0 1 f fd ["value"] sp_is_sequence := by
  refine F.ok sc_is_sequence (fun vs H Q E h => ?_) (fun cdv A outer s H vs Q E hr h => ?_)
  · obtain ⟨ex, v, d, rfl, _⟩ := h
    rfl
  · obtain ⟨ex, v, d, rfl, h, k⟩ := h
    refine ⟨_, d_is_sequence hr T , ?_⟩
    unfold t_is_sequence
    refine x_start (σ' := [some v]) rfl ?_
    walk_at "sts"
    refine x_mkt rfl (by decide) fun p hp => ?_
    walk_at "sts"
    have s1 : Same H (upd H p (.tup [.ty "list", .ty "tuple"])) := Same.new (Same.refl H) hp
    refine x_isLT (h.same s1) upd_same ?_
    have e : (d.isa "list" || d.isa "tuple") = d.isSeq := by cases d <;> (dsimp only [Da.isa, Da.isSeq]; decide)
    rw [e]
    exact k _ s1
def Da.isWi (a b : Int) : Da → Bool
  | .int i => decide (a ≤ i) && decide (i ≤ b)
  | _ => false
def sp_is_within : Sp := fun vs H Q _ => ∃ (ex : List Addr) (v : V) (d : Da) (a b : Int), vs = [v, .int a, .int b] ∧ Rp ex H v d ∧ Q (.bl (d.isWi a b)) H
theorem ok_is_within {f : Addr} {fd : FuncData} (F : Fun K "is_within" "is_within" s_is_within f fd) (T : Txt K mg tk_COORDINATE_LIMIT tk_MOST_AXES) (O_is_integer : Ok P w K mg base 1 "is_integer" ["value"] (sp_is_integer)) : FnOk P w K mg base CX0 2 f fd ["value", "least", "most"] sp_is_within := by
  refine F.ok sc_is_within (fun vs H Q E h => ?_) (fun cdv A outer s H vs Q E hr h => ?_)
  · obtain ⟨ex, v, d, a, b, rfl, _⟩ := h
    rfl
  · obtain ⟨ex, v, d, a, b, rfl, h, k⟩ := h
    refine ⟨_, d_is_within hr T O_is_integer, ?_⟩
    unfold t_is_within
    refine x_start (σ' := [some v, some (.int a), some (.int b)]) rfl ?_
    walk_at "sts"
    refine ⟨ex, v, d, rfl, h, ?_⟩
    cases d with
    | int i =>
      cases h.intI
      dsimp only [Da.isInt]
      walk_at "sts"
      dsimp only [Da.isWi] at k
      refine x_dec (fun c1 => ?_) (fun c1 => ?_)
      · rw [decide_eq_true c1, Bool.true_and] at k
        walk_at "sts"
        exact k
      · rw [decide_eq_false c1, Bool.false_and] at k
        exact k
    | _ =>
      dsimp only [Da.isInt]
      walk_at "sts"
      exact k
theorem x_within {ex : List Addr} {v : V} {d : Da} {a b : Int} {H : Hp} {Q : VK} {E : XK} (h : Rp ex H v d) (q : Q (.bl (d.isWi a b)) H) : sp_is_within [v, .int a, .int b] H Q E := ⟨ex, v, d, a, b, rfl, h, q⟩
theorem isCo_wi (d : Da) : d.isWi (-1000000) 1000000 = d.isCo := by cases d <;> rfl
def sp_is_coordinate : Sp := fun vs H Q _ => ∃ (ex : List Addr) (v : V) (d : Da), vs = [v] ∧ Rp ex H v d ∧ Q (.bl d.isCo) H
theorem ok_is_coordinate {f : Addr} {fd : FuncData} (F : Fun K "is_coordinate" "is_coordinate" s_is_coordinate f fd) (T : Txt K mg tk_COORDINATE_LIMIT tk_MOST_AXES) (O_is_within : Ok P w K mg base 2 "is_within" ["value", "least", "most"] (sp_is_within)) : FnOk P w K mg base CX0 3 f fd ["value"] sp_is_coordinate := by
  refine F.ok sc_is_coordinate (fun vs H Q E h => ?_) (fun cdv A outer s H vs Q E hr h => ?_)
  · obtain ⟨ex, v, d, rfl, _⟩ := h
    rfl
  · obtain ⟨ex, v, d, rfl, h, k⟩ := h
    refine ⟨_, d_is_coordinate hr T O_is_within, ?_⟩
    unfold t_is_coordinate
    refine x_start (σ' := [some v]) rfl ?_
    walk_at "sts"
    refine x_within h ?_
    rw [isCo_wi]
    exact k
def sp_is_pair : Sp := fun vs H Q _ => ∃ (ex : List Addr) (v : V) (d : Da), vs = [v] ∧ Rp ex H v d ∧ ∀ H', Same H H' → Q (.bl d.isPr) H'
theorem ok_is_pair {f : Addr} {fd : FuncData} (F : Fun K "is_pair" "is_pair" s_is_pair f fd) (T : Txt K mg tk_COORDINATE_LIMIT tk_MOST_AXES) (O_is_coordinate : Ok P w K mg base 3 "is_coordinate" ["value"] (sp_is_coordinate)) (O_is_sequence : Ok P w K mg base 1 "is_sequence" ["value"] (sp_is_sequence)) : FnOk P w K mg base CX0 4 f fd ["value"] sp_is_pair := by
  refine F.ok sc_is_pair (fun vs H Q E h => ?_) (fun cdv A outer s H vs Q E hr h => ?_)
  · obtain ⟨ex, v, d, rfl, _⟩ := h
    rfl
  · obtain ⟨ex, v, d, rfl, h, k⟩ := h
    refine ⟨_, d_is_pair hr T O_is_coordinate O_is_sequence, ?_⟩
    unfold t_is_pair
    refine x_start (σ' := [some v, none, none]) rfl ?_
    walk_at "sts"
    refine ⟨ex, v, d, rfl, h, fun H1 s1 => ?_⟩
    rcases d.seq_or with ⟨ds, hs⟩ | ⟨e1, e2, e3⟩
    · rw [(Da.seq_is hs).1]
      obtain ⟨a, xs, rfl, n, e, r⟩ := (h.same s1).seqI hs
      walk_at "sts"
      refine x_lenS e ?_
      walk_at "sts"
      refine x_ndec (fun c => ?_) (fun c => ?_)
      · walk_at "sts"
        have z : prL ds = false := by
          have q := r.1
          match ds, q with
          | [], _ => rfl
          | [_], _ => rfl
          | [_, _], q => exact absurd (by rw [q]; rfl) c
          | _ :: _ :: _ :: _, _ => rfl
        have := k H1 s1
        rw [(Da.seq_is hs).2.1, z] at this
        exact this
      · walk_at "sts"
        have q := r.1
        match ds, xs, q, r, e, hs with
        | [d1, d2], [x1, x2], _, r, e, hs =>
          have r1 : Rp ex H1 x1 d1 := r.2 0 _ _ rfl rfl
          have r2 : Rp ex H1 x2 d2 := r.2 1 _ _ rfl rfl
          have kk := k H1 s1
          rw [(Da.seq_is hs).2.1] at kk
          dsimp only [prL] at kk
          refine x_gX e rfl ?_
          walk_at "sts"
          refine ⟨ex, x1, d1, rfl, r1, ?_⟩
          walk_at "sts"
          refine x_ite (fun c1 => ?_) (fun c1 => ?_)
          · rw [c1, Bool.true_and] at kk
            walk_at "sts"
            refine ⟨ex, x2, d2, rfl, r2, ?_⟩
            walk_at "sts"
            refine x_ite (fun c2 => ?_) (fun c2 => ?_)
            · rw [c2, Bool.true_and] at kk
              walk_at "sts"
              cases d1 with
              | int i =>
                cases d2 with
                | int j =>
                  cases r1.intI; cases r2.intI
                  walk_at "sts"
                  exact kk
                | _ => exact absurd c2 Bool.false_ne_true
              | _ => exact absurd c1 Bool.false_ne_true
            · rw [c2, Bool.false_and] at kk
              exact kk
          · rw [c1, Bool.false_and] at kk
            exact kk
        | [], [], _, _, _, _ => exact absurd c (by decide)
        | [_], [_], _, _, _, _ => exact absurd c (by simp)
        | _ :: _ :: _ :: _, _ :: _ :: _ :: _, _, _, _, _ => exact absurd c (by simp; omega)
    · rw [e1]
      walk_at "sts"
      rw [e2] at k
      exact k H1 s1
def sp_is_box : Sp := fun vs H Q _ => ∃ (ex : List Addr) (v : V) (d : Da), vs = [v] ∧ Rp ex H v d ∧ ∀ H', Same H H' → Q (.bl d.isBx) H'
theorem x_is_box {ex : List Addr} {v : V} {d : Da} {b : Bool} {H : Hp} {Q : VK} {E : XK} (h : Rp ex H v d) (hb : d.isBx = b) (q : ∀ H', Same H H' → Q (.bl b) H') : sp_is_box [v] H Q E := ⟨ex, v, d, rfl, h, by rw [hb]; exact q⟩
theorem ok_is_box {f : Addr} {fd : FuncData} (F : Fun K "is_box" "is_box" s_is_box f fd) (T : Txt K mg tk_COORDINATE_LIMIT tk_MOST_AXES) (O_is_pair : Ok P w K mg base 4 "is_pair" ["value"] (sp_is_pair)) (O_is_sequence : Ok P w K mg base 1 "is_sequence" ["value"] (sp_is_sequence)) : FnOk P w K mg base CX0 5 f fd ["value"] sp_is_box := by
  refine F.ok sc_is_box (fun vs H Q E h => ?_) (fun cdv A outer s H vs Q E hr h => ?_)
  · obtain ⟨ex, v, d, rfl, _⟩ := h
    rfl
  · obtain ⟨ex, v, d, rfl, h, k⟩ := h
    refine ⟨_, d_is_box hr T O_is_pair O_is_sequence, ?_⟩
    unfold t_is_box
    refine x_start (σ' := [some v, none]) rfl ?_
    walk_at "sts"
    refine ⟨ex, v, d, rfl, h, fun H1 s1 => ?_⟩
    rcases d.seq_or with ⟨ds, hs⟩ | ⟨e1, e2, e3⟩
    · rw [(Da.seq_is hs).1]
      rw [(Da.seq_is hs).2.2] at k
      unfold bxL at k
      obtain ⟨a, xs, rfl, n, e, r⟩ := (h.same s1).seqI hs
      walk_at "sts"
      refine x_lenS e ?_
      walk_at "sts"
      rw [r.1]
      refine x_dec (fun c1 => ?_) (fun c1 => ?_)
      · rw [decide_eq_true c1, Bool.true_and] at k
        walk_at "sts"
        refine x_ndec (fun c2 => ?_) (fun c2 => ?_)
        · rw [decide_eq_false c2, Bool.false_and] at k
          walk_at "sts"
          exact k H1 s1
        · rw [decide_eq_true c2, Bool.true_and] at k
          walk_at "sts"
          refine x_lcS e (fun D i H' => Same H1 H' ∧ H1 D = none ∧ H' D = some (.lst (((ds.take i).map Da.isPr).map V.bl))) ?_ ?_ ?_ ?_
          · exact fun D hD => ⟨Same.new (Same.refl _) hD, hD, upd_same⟩
          · exact fun D i H2 z => z.1
          · rintro D i x H' hx ⟨s2, hD, hy⟩
            obtain ⟨d0, gd, rd⟩ := rps_at r hx
            have hi : i < ds.length := (List.getElem?_eq_some_iff.mp gd).1
            walk_at "sts"
            refine ⟨rfl, ?_⟩
            walk_at "sts"
            refine ⟨ex, x, d0, rfl, rd.same s2, fun H2 s3 => ?_⟩
            refine ⟨_, s3 _ _ hy, szl (by simp; omega), Same.own (Same.trans s2 s3) hD, hD, ?_⟩
            have e : ((ds.take (i + 1)).map Da.isPr).map V.bl = ((ds.take i).map Da.isPr).map V.bl ++ [V.bl d0.isPr] := by
              rw [List.take_add_one, gd, List.map_append, List.map_append]
              rfl
            rw [e]
            exact upd_same
          · rintro D H' ⟨s2, hD, hy⟩
            rw [r.1, List.take_length] at hy
            walk_at "sts"
            exact x_allB _ hy (k _ (Same.trans s1 s2))
      · rw [decide_eq_false c1, Bool.false_and, Bool.false_and] at k
        walk_at "sts"
        exact k H1 s1
    · rw [e1]
      walk_at "sts"
      rw [e3] at k
      exact k H1 s1
/-! ### the law -/
theorem x_numbers {a : Addr} {ns : List Int} {H : Hp} {Q : VK} {E : XK} (h : SqL K H a (ns.map V.int)) (hl : ns.length ≤ 63) (q : ∀ p H' (rs : List Int), Same H H' → H p = none → H' p = some (.lst (rs.map V.int)) → rs ≠ [] → rs.length ≤ 4000 → Q (.ref p) H') : sp__law_numbers K [.ref a] H Q E := ⟨a, ns, rfl, h, hl, q⟩
theorem wd_start {H : Hp} {row sp : Addr} {rs : List Int} (h1 : H row = some (.lst (rs.map V.int))) (h2 : H sp = none) (h3 : rs ≠ []) (h4 : rs.length ≤ 4000) : Wd (upd H sp (.lst [.int 0])) row sp :=
  ⟨⟨0, rs, Int.le_refl 0, upd_same, upd_get h2 h1, h3, h4⟩, Ne.symm (new_ne h2 h1)⟩
theorem pair_dn {n : Nat} (p : Int × Int) : Dn (n + 2) (pairD p) := .tup (by simp) fun d hd => by
  rcases List.mem_cons.mp hd with rfl | hd
  · exact .int _
  · rw [List.mem_singleton.mp hd]; exact .int _
theorem bx_dn {n : Nat} {bx : List (Int × Int)} (h : bx.length ≤ 1000) : Dn (n + 3) (bxD bx) := .tup (by simpa using h) fun d hd => by
  obtain ⟨p, _, rfl⟩ := List.mem_map.mp hd
  exact pair_dn p
theorem pair_pr {p : Int × Int} (h : -1000000 ≤ p.1 ∧ p.1 ≤ p.2 ∧ p.2 ≤ 1000000) : (pairD p).isPr = true := by
  obtain ⟨h1, h2, h3⟩ := h
  show (decide (-1000000 ≤ p.1) && decide (p.1 ≤ 1000000) && (decide (-1000000 ≤ p.2) && decide (p.2 ≤ 1000000) && decide (p.1 ≤ p.2))) = true
  simp only [Bool.and_eq_true, decide_eq_true_eq]
  omega
theorem bx_ok {bx : List (Int × Int)} (h : Bok bx) (h1 : 1 ≤ bx.length) (h2 : bx.length ≤ 4) : (bxD bx).isBx = true := by
  show bxL (bx.map pairD) = true
  unfold bxL
  rw [List.length_map, decide_eq_true (by omega), decide_eq_true (by omega)]
  rw [Bool.true_and, Bool.true_and, List.all_eq_true]
  intro b hb
  obtain ⟨d, hd, rfl⟩ := List.mem_map.mp hb
  obtain ⟨p, hp, rfl⟩ := List.mem_map.mp hd
  exact pair_pr (h p hp)
/-- what is told of a value is told of it in lists -/
theorem listed_isCo (d : Da) : d.listed.isCo = d.isCo := by cases d <;> rfl
theorem listed_le (d e : Da) : d.listed.le e.listed = d.le e := by cases d <;> cases e <;> rfl
theorem prL_listed (l : List Da) : prL (l.map Da.listed) = prL l := by
  match l with
  | [] => rfl
  | [_] => rfl
  | [a, b] =>
    show (a.listed.isCo && (b.listed.isCo && a.listed.le b.listed)) = _
    rw [listed_isCo, listed_isCo, listed_le]
    rfl
  | _ :: _ :: _ :: _ => rfl
theorem listed_isPr (d : Da) (h : ∀ l, d ≠ .lst l) : d.listed.isPr = d.isPr := by
  cases d with
  | tup l =>
    rw [listed_tup]
    exact prL_listed l
  | lst l => exact absurd rfl (h l)
  | _ => rfl
theorem listed_isBx {n : Nat} {d : Da} (h : Dn n d) : d.listed.isBx = d.isBx := by
  cases h with
  | @tup n l hb hd =>
    rw [listed_tup]
    show bxL (l.map Da.listed) = bxL l
    unfold bxL
    rw [List.length_map]
    have e : (l.map Da.listed).map Da.isPr = l.map Da.isPr := by
      rw [List.map_map]
      refine List.map_congr_left fun d hdl => ?_
      refine listed_isPr d fun m z => ?_
      have q := hd d hdl
      rw [z] at q
      cases q
    rw [e]
  | _ => rfl
theorem isBx_handed {n : Nat} {d d' : Da} {b : Bool} (h : Dn n d) (e : d' = d ∨ d' = d.listed) (hb : d.isBx = b) : d'.isBx = b := by
  rcases e with rfl | rfl
  · exact hb
  · rw [listed_isBx h]; exact hb
/-- a box with one pair that is none -/
theorem bx_bad {l : List Da} {d : Da} (h : d ∈ l) (hd : d.isPr = false) : (Da.tup l).isBx = false := by
  show bxL l = false
  unfold bxL
  have e : (l.map Da.isPr).all id = false := by
    rw [List.all_eq_false]
    exact ⟨false, List.mem_map.mpr ⟨d, h, hd⟩, by simp⟩
  rw [e, Bool.and_false]
def bads1 (low : Int) : List Da := [.tup [.int low, .int (low - 1)], .tup [.int low, .int 1000001], .tup [.int (-1000001), .int low], .tup [.int low], .tup [.int low, .int low, .int low], .tup [.int low, .non], .tup [.bl true, .int 1]]
def bads (low : Int) : List Da := bads1 low ++ [.str "01", .non, .int low]
theorem bads_ok {low : Int} {d : Da} (h : -1000000 ≤ low ∧ low ≤ 1000000) (hd : d ∈ bads low) : d.isPr = false ∧ Dn 2 d := by
  obtain ⟨h1, h2⟩ := h
  simp only [bads, bads1, List.cons_append, List.nil_append, List.mem_cons, List.not_mem_nil, or_false] at hd
  rcases hd with rfl | rfl | rfl | rfl | rfl | rfl | rfl | rfl | rfl | rfl
  · refine ⟨?_, .tup (by simp) fun d hd => ?_⟩
    · show (decide (-1000000 ≤ low) && decide (low ≤ 1000000) && (decide (-1000000 ≤ low - 1) && decide (low - 1 ≤ 1000000) && decide (low ≤ low - 1))) = false
      rw [decide_eq_false (show ¬ low ≤ low - 1 by omega), Bool.and_false, Bool.and_false]
    · simp only [List.mem_cons, List.not_mem_nil, or_false] at hd
      rcases hd with rfl | rfl <;> exact .int _
  · refine ⟨?_, .tup (by simp) fun d hd => ?_⟩
    · show (decide (-1000000 ≤ low) && decide (low ≤ 1000000) && (decide (-1000000 ≤ (1000001 : Int)) && decide ((1000001 : Int) ≤ 1000000) && decide (low ≤ 1000001))) = false
      rw [decide_eq_false (show ¬ (1000001 : Int) ≤ 1000000 by omega), Bool.and_false, Bool.false_and, Bool.and_false]
    · simp only [List.mem_cons, List.not_mem_nil, or_false] at hd
      rcases hd with rfl | rfl <;> exact .int _
  · refine ⟨?_, .tup (by simp) fun d hd => ?_⟩
    · show (decide (-1000000 ≤ (-1000001 : Int)) && decide ((-1000001 : Int) ≤ 1000000) && (decide (-1000000 ≤ low) && decide (low ≤ 1000000) && decide (-1000001 ≤ low))) = false
      rw [decide_eq_false (show ¬ (-1000000 : Int) ≤ -1000001 by omega), Bool.false_and, Bool.false_and]
    · simp only [List.mem_cons, List.not_mem_nil, or_false] at hd
      rcases hd with rfl | rfl <;> exact .int _
  · exact ⟨rfl, .tup (by simp) fun d hd => by rw [List.mem_singleton.mp hd]; exact .int _⟩
  · refine ⟨rfl, .tup (by simp) fun d hd => ?_⟩
    simp only [List.mem_cons, List.not_mem_nil, or_false] at hd
    rcases hd with rfl | rfl | rfl <;> exact .int _
  · refine ⟨?_, .tup (by simp) fun d hd => ?_⟩
    · show ((decide (-1000000 ≤ low) && decide (low ≤ 1000000)) && (false && false)) = false
      rw [Bool.false_and, Bool.and_false]
    · simp only [List.mem_cons, List.not_mem_nil, or_false] at hd
      rcases hd with rfl | rfl
      · exact .int _
      · exact .non
  · refine ⟨rfl, .tup (by simp) fun d hd => ?_⟩
    simp only [List.mem_cons, List.not_mem_nil, or_false] at hd
    rcases hd with rfl | rfl
    · exact .bl _
    · exact .int _
  · exact ⟨rfl, .str _⟩
  · exact ⟨rfl, .non⟩
  · exact ⟨rfl, .int _⟩
theorem spoilt_ok {bx : List (Int × Int)} {d : Da} (l1 : ((bx.map pairD).take 1).length = 1) (hb : bx.length ≤ 1000) (h0 : 0 < bx.length) (hd : d ∈ ([.tup [], .tup (List.replicate (5 : Int).toNat ((bx.map pairD).take 1)).flatten, .non, .int 7, .str "box", pairD bx[0], .bl true] : List Da)) : d.isBx = false ∧ Dn 3 d := by
  simp only [List.mem_cons, List.not_mem_nil, or_false] at hd
  rcases hd with rfl | rfl | rfl | rfl | rfl | rfl | rfl
  · exact ⟨rfl, .tup (by simp) fun d hd => nomatch hd⟩
  · have e : (List.replicate (5 : Int).toNat ((bx.map pairD).take 1)).flatten.length = 5 := by
      rw [List.length_flatten, List.map_replicate, l1]
      rfl
    refine ⟨?_, .tup (by omega) fun d hd => ?_⟩
    · show bxL _ = false
      unfold bxL
      rw [e]
      rfl
    · obtain ⟨l, hl, hd⟩ := List.mem_flatten.mp hd
      rw [(List.mem_replicate.mp hl).2] at hd
      obtain ⟨p, _, rfl⟩ := List.mem_map.mp (List.mem_of_mem_take hd)
      exact pair_dn p
  · exact ⟨rfl, .non⟩
  · exact ⟨rfl, .int _⟩
  · exact ⟨rfl, .str _⟩
  · exact ⟨bx_bad (d := .int bx[0].1) (List.mem_cons_self ..) rfl, pair_dn _⟩
  · exact ⟨rfl, .bl _⟩
def sp_law (K : PySem.W.Frag) : Sp := fun vs H Q _ => ∃ (a : Addr) (ns : List Int), vs = [.ref a] ∧ SqL K H a (ns.map V.int) ∧ ns.length ≤ 63 ∧ ∀ H', Q (.bl true) H'
theorem ok_law {f : Addr} {fd : FuncData} (F : Fun K "law" "law" s_law f fd) (T : Txt K mg tk_COORDINATE_LIMIT tk_MOST_AXES) (O__law_box : Ok P w K mg base 5 "_law_box" ["row", "spot", "style", "middle"] (sp__law_box)) (O__law_handed : Ok P w K mg base 4 "_law_handed" ["row", "spot", "value"] (sp__law_handed)) (O__law_listed : Ok P w K mg base 3 "_law_listed" ["value"] (sp__law_listed 3)) (O__law_middle : Ok P w K mg base 4 "_law_middle" ["row", "spot", "axes", "style"] (sp__law_middle)) (O__law_numbers : Ok P w K mg base 1 "_law_numbers" ["script"] (sp__law_numbers K)) (O__law_so : Ok P w K mg base 4 "_law_so" ["found", "meant"] (sp__law_so 4)) (O__law_style : Ok P w K mg base 3 "_law_style" ["row", "spot"] (sp__law_style)) (O__law_take : Ok P w K mg base 2 "_law_take" ["row", "spot", "limit"] (sp__law_take)) (O__law_tupled : Ok P w K mg base 3 "_law_tupled" ["value"] (sp__law_tupled 3)) (O_is_box : Ok P w K mg base 5 "is_box" ["value"] (sp_is_box)) (kb_is_box_0_value : OkK P w K mg base 5 "is_box" ["value"] (sp_is_box) 0 ["value"] [0]) : FnOk P w K mg base CX0 6 f fd ["script"] (sp_law K) := by
  refine F.ok sc_law (fun vs H Q E h => ?_) (fun cdv A outer s H vs Q E hr h => ?_)
  · obtain ⟨a, ns, rfl, _⟩ := h
    rfl
  · obtain ⟨a, ns, rfl, ha, hl, k⟩ := h
    refine ⟨_, d_law hr T O__law_box O__law_handed O__law_listed O__law_middle O__law_numbers O__law_so O__law_style O__law_take O__law_tupled O_is_box kb_is_box_0_value, ?_⟩
    unfold t_law
    refine x_start (σ' := [some (.ref a), none, none, none, none, none, none, none, none, none, none, none]) rfl ?_
    walk_at "sts"
    refine x_numbers ha hl fun row H1 rs s1 _ hrow hne hle => ?_
    walk_at "sts"
    refine x_mkl rfl (by decide) fun sp hsp => ?_
    have W0 : Wd (upd H1 sp (.lst [.int 0])) row sp := wd_start hrow hsp hne hle
    walk_at "sts"
    refine x_rng 4 (by decide) rfl ?_
    refine x_loopR (fun i σ H' => ∃ (x3 x4 x5 x6 x7 x8 x9 x10 x11 : Option V), σ = [some (.ref a), some (.ref row), some (.ref sp), x3, x4, x5, x6, x7, x8, x9, x10, x11] ∧ Wd H' row sp) ?_ ?_ ?_
    · exact ⟨none, none, none, none, none, none, none, none, none, rfl, W0⟩
    · rintro i σ H0 hi ⟨x3, x4, x5, x6, x7, x8, x9, x10, x11, rfl, W⟩
      walk_at "sts"
      refine x_take W (by decide) fun r1 H1 a1 b1 k1 W1 => ?_
      obtain ⟨n, hn⟩ : ∃ n : Nat, 1 + r1 = (n : Int) := ⟨(1 + r1).toNat, by omega⟩
      walk_at "sts"
      refine x_style W1 fun st H2 a2 b2 k2 W2 => ?_
      walk_at "sts"
      refine x_middle hn W2 (by omega) a2 b2 fun m H3 ms k3 W3 hm em lm => ?_
      walk_at "sts"
      refine x_box W3 (W2.sp_ne hm) em (by omega) fun v H4 bx k4 W4 rb ok lb => ?_
      walk_at "sts"
      have lbx : bx.length = n := lb.trans lm
      refine x_cut (fun σ' H' => ∃ (v : V) (bx : List (Int × Int)), σ' = [some (.ref a), some (.ref row), some (.ref sp), some (.int (i : Int)), some (.int (1 + r1)), some (.int st), some v, x7, x8, x9, x10, x11] ∧ Wd H' row sp ∧ Rp [sp] H' v (bxD bx) ∧ Bok bx ∧ bx.length = n) ?_ ?_
      · walk_at "sts"
        refine x_take W4 (by decide) fun r5 H5 a5 b5 k5 W5 => ?_
        walk_at "sts"
        have rb5 := rb.kp k5
        refine x_dec (fun _ => ?_) (fun _ => ?_)
        · walk_at "sts"
          refine x_mkT (ex := [sp]) (ds := [.int (-1000000), .int 1000000]) (by walk_at "rps") W5.live (by decide) fun t H6 s6 rt => ?_
          have W6 := W5.same s6
          walk_at "sts"
          refine x_mkT (ex := [sp]) (ds := [pairD (-1000000, 1000000)]) (by walk_at "rps") W6.live (by decide) fun t2 H7 s7 rt2 => ?_
          have W7 := W6.same s7
          walk_at "sts"
          refine x_slFrom (k := 1) (ex := [sp]) (ds := bx.map pairD) (by walk_at "rp") rfl W7.live fun t3 H8 s8 rt3 => ?_
          have W8 := W7.same s8
          walk_at "sts"
          refine x_addR (rt2.same s8) rt3 (by simp; omega) W8.live fun t4 H9 s9 rt4 => ?_
          walk_at "sts"
          refine ⟨t4, (-1000000, 1000000) :: bx.drop 1, rfl, W8.same s9, ?_, ?_, ?_⟩
          · rw [← List.map_drop] at rt4
            exact rt4
          · intro p hp
            rcases List.mem_cons.mp hp with rfl | hp
            · exact ⟨by decide, by decide, by decide⟩
            · exact ok p (List.mem_of_mem_drop hp)
          · rw [List.length_cons, List.length_drop]
            omega
        · walk_at "sts"
          exact ⟨v, bx, rfl, W5, rb5, ok, lbx⟩
      · rintro σ' H5 ⟨v, bx, rfl, W5, rb, ok, lb⟩
        have hb : (bxD bx).isBx = true := bx_ok ok (by omega) (by omega)
        have dn : Dn 3 (bxD bx) := bx_dn (n := 0) (by omega)
        walk_at "sts"
        refine x_handed W5 rb dn fun v6 H6 d6 k6 W6 e6 r6 => ?_
        walk_at "sts"
        refine ⟨rfl, rfl, x_is_box r6 (isBx_handed dn e6 hb) fun H7 s7 => ?_⟩
        have W7 := W6.same s7
        walk_at "sts"
        refine x_so (sp := [sp]) (d := .bl true) (.bl _) (.bl _) (.bl _) ?_
        walk_at "sts"
        refine x_tupled (r6.same s7) e6 dn W7.live fun v8 H8 s8 r8 => ?_
        have W8 := W7.same s8
        walk_at "sts"
        refine x_so r8 (((rb.kp k6).same s7).same s8) (dn.mono (by decide)) ?_
        walk_at "sts"
        refine x_take W8 (by omega) fun r9 H9 a9 b9 k9 W9 => ?_
        walk_at "sts"
        have rb9 : Rp [sp] H9 v (bxD bx) := (((rb.kp k6).same s7).same s8).kp k9
        have hj : r9.toNat < bx.length := by omega
        have gj : (bx.map pairD)[r9.toNat]? = some (pairD bx[r9.toNat]) := by rw [List.getElem?_map, List.getElem?_eq_getElem hj]; rfl
        refine x_ixR (i := r9.toNat) rb9 (.inl rfl) gj (by omega) fun x10 r10 => ?_
        walk_at "sts"
        refine x_ixR (i := 0) (d' := .int bx[r9.toNat].1) r10 (.inl rfl) rfl rfl fun x11 r11 => ?_
        cases r11.intI
        generalize hlow : bx[r9.toNat].1 = low
        have hok := ok _ (List.getElem_mem hj)
        rw [hlow] at hok
        walk_at "sts"
        refine x_mkT (ex := [sp]) (ds := [.int low, .int (low - 1)]) (by walk_at "rps") (Wd.live W9) (by walk_at "len") fun u1 G1 g1 q1 => ?_
        have V1 := Wd.same W9 g1
        walk_at "sts"
        refine x_mkT (ex := [sp]) (ds := [.int low, .int 1000001]) (by walk_at "rps") (Wd.live V1) (by walk_at "len") fun u2 G2 g2 q2 => ?_
        have V2 := Wd.same V1 g2
        walk_at "sts"
        refine x_mkT (ex := [sp]) (ds := [.int (-1000001), .int low]) (by walk_at "rps") (Wd.live V2) (by walk_at "len") fun u3 G3 g3 q3 => ?_
        have V3 := Wd.same V2 g3
        walk_at "sts"
        refine x_mkT (ex := [sp]) (ds := [.int low]) (by walk_at "rps") (Wd.live V3) (by walk_at "len") fun u4 G4 g4 q4 => ?_
        have V4 := Wd.same V3 g4
        walk_at "sts"
        refine x_mkT (ex := [sp]) (ds := [.int low, .int low, .int low]) (by walk_at "rps") (Wd.live V4) (by walk_at "len") fun u5 G5 g5 q5 => ?_
        have V5 := Wd.same V4 g5
        walk_at "sts"
        refine x_mkT (ex := [sp]) (ds := [.int low, .non]) (by walk_at "rps") (Wd.live V5) (by walk_at "len") fun u6 G6 g6 q6 => ?_
        have V6 := Wd.same V5 g6
        walk_at "sts"
        refine x_mkT (ex := [sp]) (ds := [.bl true, .int 1]) (by walk_at "rps") (Wd.live V6) (by walk_at "len") fun u7 G7 g7 q7 => ?_
        have V7 := Wd.same V6 g7
        walk_at "sts"
        refine x_mkL (ex := [sp]) (ds := bads1 low) (by walk_at "rps") V7.live (by walk_at "len") fun u8 G8 g8 q8 => ?_
        have V8 := V7.same g8
        walk_at "sts"
        refine x_mkL (ex := [sp]) (ds := [.str "01", .non, .int low]) (by walk_at "rps") V8.live (by walk_at "len") fun u9 G9 g9 q9 => ?_
        have V9 := V8.same g9
        walk_at "sts"
        refine x_addLR (q8.same g9) q9 (by walk_at "len") V9.live fun u10 G10 g10 q10 => ?_
        have V10 := V9.same g10
        walk_at "sts"
        refine x_take V10 (by decide) fun r12 G11 a12 b12 g11 V11 => ?_
        walk_at "sts"
        have q11 := q10.kp g11
        obtain ⟨bd, hbd⟩ : ∃ bd, (bads low)[r12.toNat]? = some bd := get_ex (n := 10) rfl (by omega)
        obtain ⟨bp, bn⟩ := bads_ok ⟨hok.1, by omega⟩ (List.mem_of_getElem? hbd)
        refine x_ixR (i := r12.toNat) q11 (.inr rfl) hbd (by omega) fun u12 q12 => ?_
        walk_at "sts"
        have rbB : Rp [sp] G11 v (bxD bx) := by walk_at "rp"
        refine x_slTo (k := r9.toNat) rbB (by omega) V11.live fun u13 G13 g13 q13 => ?_
        have V13 := V11.same g13
        walk_at "sts"
        refine x_mkT (ex := [sp]) (ds := [bd]) (by walk_at "rps") V13.live (by walk_at "len") fun u14 G14 g14 q14 => ?_
        have V14 := V13.same g14
        walk_at "sts"
        refine x_addR (q13.same g14) q14 (by simp; omega) V14.live fun u15 G15 g15 q15 => ?_
        have V15 := V14.same g15
        walk_at "sts"
        have rbC : Rp [sp] G15 v (bxD bx) := by walk_at "rp"
        refine x_slFrom (k := r9.toNat + 1) rbC (by omega) V15.live fun u16 G16 g16 q16 => ?_
        have V16 := V15.same g16
        walk_at "sts"
        refine x_addR (q15.same g16) q16 (by simp; omega) V16.live fun u17 G17 g17 q17 => ?_
        have V17 := V16.same g17
        have n17 : (Da.tup ((bx.map pairD).take r9.toNat ++ [bd] ++ (bx.map pairD).drop (r9.toNat + 1))).isBx = false := bx_bad (by simp) bp
        have d17 : Dn 3 (Da.tup ((bx.map pairD).take r9.toNat ++ [bd] ++ (bx.map pairD).drop (r9.toNat + 1))) := .tup (by simp; omega) fun d hd => by
          rcases List.mem_append.mp hd with hd | hd
          · rcases List.mem_append.mp hd with hd | hd
            · obtain ⟨p, _, rfl⟩ := List.mem_map.mp (List.mem_of_mem_take hd)
              exact pair_dn p
            · rw [List.mem_singleton.mp hd]; exact bn
          · obtain ⟨p, _, rfl⟩ := List.mem_map.mp (List.mem_of_mem_drop hd)
            exact pair_dn p
        walk_at "sts"
        refine x_cut (fun σ' H' => ∃ (x3 x4 x5 x6 x7 x8 x9 x10 : Option V) (v : V) (d : Da), σ' = [some (.ref a), some (.ref row), some (.ref sp), x3, x4, x5, x6, x7, x8, x9, x10, some v] ∧ Wd H' row sp ∧ Rp [sp] H' v d ∧ d.isBx = false ∧ Dn 3 d) ?_ ?_
        · walk_at "sts"
          refine x_take V17 (by decide) fun r18 G18 a18 b18 g18 V18 => ?_
          walk_at "sts"
          refine x_dec (fun _ => ?_) (fun _ => ?_)
          · walk_at "sts"
            refine x_mkT (ex := [sp]) (ds := []) (by walk_at "rps") V18.live (by walk_at "len") fun u19 G19 g19 q19 => ?_
            have V19 := V18.same g19
            walk_at "sts"
            have rbD : Rp [sp] G19 v (bxD bx) := by walk_at "rp"
            refine x_slTo (k := 1) rbD rfl V19.live fun u20 G20 g20 q20 => ?_
            have V20 := V19.same g20
            walk_at "sts"
            have l1 : ((bx.map pairD).take 1).length = 1 := by simp; omega
            refine x_repR q20 (fun z => by rw [z] at l1; cases l1) (by omega) (by decide) (by decide) V20.live fun u21 G21 g21 q21 => ?_
            have V21 := V20.same g21
            walk_at "sts"
            have h0 : 0 < bx.length := by omega
            have g0 : (bx.map pairD)[0]? = some (pairD bx[0]) := by rw [List.getElem?_map, List.getElem?_eq_getElem h0]; rfl
            have rbE : Rp [sp] G21 v (bxD bx) := by walk_at "rp"
            refine x_ixR (i := 0) rbE (.inl rfl) g0 rfl fun u22 q22 => ?_
            walk_at "sts"
            refine x_mkL (ex := [sp]) (ds := [.tup [], .tup (List.replicate (5 : Int).toNat ((bx.map pairD).take 1)).flatten, .non, .int 7, .str "box", pairD bx[0], .bl true]) (by walk_at "rps") V21.live (by simp) fun u23 G23 g23 q23 => ?_
            have V23 := V21.same g23
            walk_at "sts"
            refine x_take V23 (by decide) fun r24 G24 a24 b24 g24 V24 => ?_
            have q24 := q23.kp g24
            obtain ⟨sd, hsd⟩ : ∃ sd, ([.tup [], .tup (List.replicate (5 : Int).toNat ((bx.map pairD).take 1)).flatten, .non, .int 7, .str "box", pairD bx[0], .bl true] : List Da)[r24.toNat]? = some sd := get_ex (n := 7) (i := r24.toNat) rfl (by omega)
            refine x_ixR (i := r24.toNat) q24 (.inr rfl) hsd (by omega) fun u25 q25 => ?_
            walk_at "sts"
            obtain ⟨z1, z2⟩ := spoilt_ok l1 (by omega) h0 (List.mem_of_getElem? hsd)
            exact ⟨_, _, _, _, _, _, _, _, u25, sd, rfl, V24, q25, z1, z2⟩
          · walk_at "sts"
            exact ⟨_, _, _, _, _, _, _, _, u17, _, rfl, V18, q17.kp (g18.trans Kp.refl) |> fun z => (by walk_at "rp"), n17, d17⟩
        · rintro σ' H7 ⟨y3, y4, y5, y6, y7, y8, y9, y10, w1, sd, rfl, Wz, rz, nz, dz⟩
          walk_at "sts"
          refine x_is_box rz nz fun H8 s8 => ?_
          have W8 := Wz.same s8
          walk_at "sts"
          refine x_so (sp := [sp]) (d := .bl false) (.bl _) (.bl _) (.bl _) ?_
          walk_at "sts"
          refine x_listed (rz.same s8) dz W8.live fun w2 H9 s9 r9 => ?_
          walk_at "sts"
          refine x_is_box r9 (isBx_handed dz (.inr rfl) nz) fun H10 s10 => ?_
          walk_at "sts"
          refine x_so (sp := [sp]) (d := .bl false) (.bl _) (.bl _) (.bl _) ?_
          walk_at "sts"
          exact ⟨_, _, _, _, _, _, _, _, _, rfl, (W8.same s9).same s10⟩
    · rintro σ H' ⟨x3, x4, x5, x6, x7, x8, x9, x10, x11, rfl, W⟩
      walk_at "sts"
      exact k _
end
set_option maxHeartbeats 4000000 in
theorem all_mk {l : PySem.W.OpenLaw} {w : World} {K : PySem.W.Frag} {h : Heap} {mg : Str → Option Value} {fa : Addr} (X : K.In h) (G : h.Ns mainGlobals mg) (hfa : mg "law" = some (.ref fa))
    {f_is_integer : Addr} {od_is_integer an_is_integer : Option Addr} {sl_is_integer : Array (Option Value)} {oc_is_integer kV_is_integer dc_is_integer pm_is_integer cd_is_integer ct_is_integer : Value}
    {f_is_sequence : Addr} {od_is_sequence an_is_sequence : Option Addr} {sl_is_sequence : Array (Option Value)} {oc_is_sequence kV_is_sequence dc_is_sequence pm_is_sequence cd_is_sequence ct_is_sequence : Value}
    {f_is_within : Addr} {od_is_within an_is_within : Option Addr} {sl_is_within : Array (Option Value)} {oc_is_within kV_is_within dc_is_within pm_is_within cd_is_within ct_is_within : Value}
    {f_is_coordinate : Addr} {od_is_coordinate an_is_coordinate : Option Addr} {sl_is_coordinate : Array (Option Value)} {oc_is_coordinate kV_is_coordinate dc_is_coordinate pm_is_coordinate cd_is_coordinate ct_is_coordinate : Value}
    {f_is_pair : Addr} {od_is_pair an_is_pair : Option Addr} {sl_is_pair : Array (Option Value)} {oc_is_pair kV_is_pair dc_is_pair pm_is_pair cd_is_pair ct_is_pair : Value}
    {f_is_box : Addr} {od_is_box an_is_box : Option Addr} {sl_is_box : Array (Option Value)} {oc_is_box kV_is_box dc_is_box pm_is_box cd_is_box ct_is_box : Value}
    {f__law_so : Addr} {od__law_so an__law_so : Option Addr} {sl__law_so : Array (Option Value)} {oc__law_so kV__law_so dc__law_so pm__law_so cd__law_so ct__law_so : Value}
    {f__law_numbers : Addr} {od__law_numbers an__law_numbers : Option Addr} {sl__law_numbers : Array (Option Value)} {oc__law_numbers kV__law_numbers dc__law_numbers pm__law_numbers cd__law_numbers ct__law_numbers : Value}
    {f__law_draw : Addr} {od__law_draw an__law_draw : Option Addr} {sl__law_draw : Array (Option Value)} {oc__law_draw kV__law_draw dc__law_draw pm__law_draw cd__law_draw ct__law_draw : Value}
    {f__law_take : Addr} {od__law_take an__law_take : Option Addr} {sl__law_take : Array (Option Value)} {oc__law_take kV__law_take dc__law_take pm__law_take cd__law_take ct__law_take : Value}
    {f__law_wide : Addr} {od__law_wide an__law_wide : Option Addr} {sl__law_wide : Array (Option Value)} {oc__law_wide kV__law_wide dc__law_wide pm__law_wide cd__law_wide ct__law_wide : Value}
    {f__law_clip : Addr} {od__law_clip an__law_clip : Option Addr} {sl__law_clip : Array (Option Value)} {oc__law_clip kV__law_clip dc__law_clip pm__law_clip cd__law_clip ct__law_clip : Value}
    {f__law_middle : Addr} {od__law_middle an__law_middle : Option Addr} {sl__law_middle : Array (Option Value)} {oc__law_middle kV__law_middle dc__law_middle pm__law_middle cd__law_middle ct__law_middle : Value}
    {f__law_extent : Addr} {od__law_extent an__law_extent : Option Addr} {sl__law_extent : Array (Option Value)} {oc__law_extent kV__law_extent dc__law_extent pm__law_extent cd__law_extent ct__law_extent : Value}
    {f__law_box : Addr} {od__law_box an__law_box : Option Addr} {sl__law_box : Array (Option Value)} {oc__law_box kV__law_box dc__law_box pm__law_box cd__law_box ct__law_box : Value}
    {f__law_style : Addr} {od__law_style an__law_style : Option Addr} {sl__law_style : Array (Option Value)} {oc__law_style kV__law_style dc__law_style pm__law_style cd__law_style ct__law_style : Value}
    {f__law_listed : Addr} {od__law_listed an__law_listed : Option Addr} {sl__law_listed : Array (Option Value)} {oc__law_listed kV__law_listed dc__law_listed pm__law_listed cd__law_listed ct__law_listed : Value}
    {f__law_tupled : Addr} {od__law_tupled an__law_tupled : Option Addr} {sl__law_tupled : Array (Option Value)} {oc__law_tupled kV__law_tupled dc__law_tupled pm__law_tupled cd__law_tupled ct__law_tupled : Value}
    {f__law_handed : Addr} {od__law_handed an__law_handed : Option Addr} {sl__law_handed : Array (Option Value)} {oc__law_handed kV__law_handed dc__law_handed pm__law_handed cd__law_handed ct__law_handed : Value}
    {f_law : Addr} {od_law an_law : Option Addr} {sl_law : Array (Option Value)} {oc_law kV_law dc_law pm_law cd_law ct_law : Value}
    {tk_COORDINATE_LIMIT : Tok}
    {tk_MOST_AXES : Tok}
    (a_is_integer : PySem.W.nsIn K mainGlobals "is_integer" = some (some (.ref f_is_integer))) (l_is_integer : K.lookup f_is_integer = some ⟨oc_is_integer, od_is_integer, .func (PySem.W.fnOf "is_integer" "is_integer" (defArgs s_is_integer) (defBody s_is_integer) (defScope s_is_integer) .none kV_is_integer dc_is_integer pm_is_integer an_is_integer cd_is_integer ct_is_integer), sl_is_integer⟩) (c_is_integer : PySem.W.codeIn K cd_is_integer "is_integer" = true) (k_is_integer : PySem.W.keepIn K (.ref f_is_integer) = true)
    (a_is_sequence : PySem.W.nsIn K mainGlobals "is_sequence" = some (some (.ref f_is_sequence))) (l_is_sequence : K.lookup f_is_sequence = some ⟨oc_is_sequence, od_is_sequence, .func (PySem.W.fnOf "is_sequence" "is_sequence" (defArgs s_is_sequence) (defBody s_is_sequence) (defScope s_is_sequence) .none kV_is_sequence dc_is_sequence pm_is_sequence an_is_sequence cd_is_sequence ct_is_sequence), sl_is_sequence⟩) (c_is_sequence : PySem.W.codeIn K cd_is_sequence "is_sequence" = true) (k_is_sequence : PySem.W.keepIn K (.ref f_is_sequence) = true)
    (a_is_within : PySem.W.nsIn K mainGlobals "is_within" = some (some (.ref f_is_within))) (l_is_within : K.lookup f_is_within = some ⟨oc_is_within, od_is_within, .func (PySem.W.fnOf "is_within" "is_within" (defArgs s_is_within) (defBody s_is_within) (defScope s_is_within) .none kV_is_within dc_is_within pm_is_within an_is_within cd_is_within ct_is_within), sl_is_within⟩) (c_is_within : PySem.W.codeIn K cd_is_within "is_within" = true) (k_is_within : PySem.W.keepIn K (.ref f_is_within) = true)
    (a_is_coordinate : PySem.W.nsIn K mainGlobals "is_coordinate" = some (some (.ref f_is_coordinate))) (l_is_coordinate : K.lookup f_is_coordinate = some ⟨oc_is_coordinate, od_is_coordinate, .func (PySem.W.fnOf "is_coordinate" "is_coordinate" (defArgs s_is_coordinate) (defBody s_is_coordinate) (defScope s_is_coordinate) .none kV_is_coordinate dc_is_coordinate pm_is_coordinate an_is_coordinate cd_is_coordinate ct_is_coordinate), sl_is_coordinate⟩) (c_is_coordinate : PySem.W.codeIn K cd_is_coordinate "is_coordinate" = true) (k_is_coordinate : PySem.W.keepIn K (.ref f_is_coordinate) = true)
    (a_is_pair : PySem.W.nsIn K mainGlobals "is_pair" = some (some (.ref f_is_pair))) (l_is_pair : K.lookup f_is_pair = some ⟨oc_is_pair, od_is_pair, .func (PySem.W.fnOf "is_pair" "is_pair" (defArgs s_is_pair) (defBody s_is_pair) (defScope s_is_pair) .none kV_is_pair dc_is_pair pm_is_pair an_is_pair cd_is_pair ct_is_pair), sl_is_pair⟩) (c_is_pair : PySem.W.codeIn K cd_is_pair "is_pair" = true) (k_is_pair : PySem.W.keepIn K (.ref f_is_pair) = true)
    (a_is_box : PySem.W.nsIn K mainGlobals "is_box" = some (some (.ref f_is_box))) (l_is_box : K.lookup f_is_box = some ⟨oc_is_box, od_is_box, .func (PySem.W.fnOf "is_box" "is_box" (defArgs s_is_box) (defBody s_is_box) (defScope s_is_box) .none kV_is_box dc_is_box pm_is_box an_is_box cd_is_box ct_is_box), sl_is_box⟩) (c_is_box : PySem.W.codeIn K cd_is_box "is_box" = true) (k_is_box : PySem.W.keepIn K (.ref f_is_box) = true)
    (a__law_so : PySem.W.nsIn K mainGlobals "_law_so" = some (some (.ref f__law_so))) (l__law_so : K.lookup f__law_so = some ⟨oc__law_so, od__law_so, .func (PySem.W.fnOf "_law_so" "_law_so" (defArgs s__law_so) (defBody s__law_so) (defScope s__law_so) .none kV__law_so dc__law_so pm__law_so an__law_so cd__law_so ct__law_so), sl__law_so⟩) (c__law_so : PySem.W.codeIn K cd__law_so "_law_so" = true) (k__law_so : PySem.W.keepIn K (.ref f__law_so) = true)
    (a__law_numbers : PySem.W.nsIn K mainGlobals "_law_numbers" = some (some (.ref f__law_numbers))) (l__law_numbers : K.lookup f__law_numbers = some ⟨oc__law_numbers, od__law_numbers, .func (PySem.W.fnOf "_law_numbers" "_law_numbers" (defArgs s__law_numbers) (defBody s__law_numbers) (defScope s__law_numbers) .none kV__law_numbers dc__law_numbers pm__law_numbers an__law_numbers cd__law_numbers ct__law_numbers), sl__law_numbers⟩) (c__law_numbers : PySem.W.codeIn K cd__law_numbers "_law_numbers" = true) (k__law_numbers : PySem.W.keepIn K (.ref f__law_numbers) = true)
    (a__law_draw : PySem.W.nsIn K mainGlobals "_law_draw" = some (some (.ref f__law_draw))) (l__law_draw : K.lookup f__law_draw = some ⟨oc__law_draw, od__law_draw, .func (PySem.W.fnOf "_law_draw" "_law_draw" (defArgs s__law_draw) (defBody s__law_draw) (defScope s__law_draw) .none kV__law_draw dc__law_draw pm__law_draw an__law_draw cd__law_draw ct__law_draw), sl__law_draw⟩) (c__law_draw : PySem.W.codeIn K cd__law_draw "_law_draw" = true) (k__law_draw : PySem.W.keepIn K (.ref f__law_draw) = true)
    (a__law_take : PySem.W.nsIn K mainGlobals "_law_take" = some (some (.ref f__law_take))) (l__law_take : K.lookup f__law_take = some ⟨oc__law_take, od__law_take, .func (PySem.W.fnOf "_law_take" "_law_take" (defArgs s__law_take) (defBody s__law_take) (defScope s__law_take) .none kV__law_take dc__law_take pm__law_take an__law_take cd__law_take ct__law_take), sl__law_take⟩) (c__law_take : PySem.W.codeIn K cd__law_take "_law_take" = true) (k__law_take : PySem.W.keepIn K (.ref f__law_take) = true)
    (a__law_wide : PySem.W.nsIn K mainGlobals "_law_wide" = some (some (.ref f__law_wide))) (l__law_wide : K.lookup f__law_wide = some ⟨oc__law_wide, od__law_wide, .func (PySem.W.fnOf "_law_wide" "_law_wide" (defArgs s__law_wide) (defBody s__law_wide) (defScope s__law_wide) .none kV__law_wide dc__law_wide pm__law_wide an__law_wide cd__law_wide ct__law_wide), sl__law_wide⟩) (c__law_wide : PySem.W.codeIn K cd__law_wide "_law_wide" = true) (k__law_wide : PySem.W.keepIn K (.ref f__law_wide) = true)
    (a__law_clip : PySem.W.nsIn K mainGlobals "_law_clip" = some (some (.ref f__law_clip))) (l__law_clip : K.lookup f__law_clip = some ⟨oc__law_clip, od__law_clip, .func (PySem.W.fnOf "_law_clip" "_law_clip" (defArgs s__law_clip) (defBody s__law_clip) (defScope s__law_clip) .none kV__law_clip dc__law_clip pm__law_clip an__law_clip cd__law_clip ct__law_clip), sl__law_clip⟩) (c__law_clip : PySem.W.codeIn K cd__law_clip "_law_clip" = true) (k__law_clip : PySem.W.keepIn K (.ref f__law_clip) = true)
    (a__law_middle : PySem.W.nsIn K mainGlobals "_law_middle" = some (some (.ref f__law_middle))) (l__law_middle : K.lookup f__law_middle = some ⟨oc__law_middle, od__law_middle, .func (PySem.W.fnOf "_law_middle" "_law_middle" (defArgs s__law_middle) (defBody s__law_middle) (defScope s__law_middle) .none kV__law_middle dc__law_middle pm__law_middle an__law_middle cd__law_middle ct__law_middle), sl__law_middle⟩) (c__law_middle : PySem.W.codeIn K cd__law_middle "_law_middle" = true) (k__law_middle : PySem.W.keepIn K (.ref f__law_middle) = true)
    (a__law_extent : PySem.W.nsIn K mainGlobals "_law_extent" = some (some (.ref f__law_extent))) (l__law_extent : K.lookup f__law_extent = some ⟨oc__law_extent, od__law_extent, .func (PySem.W.fnOf "_law_extent" "_law_extent" (defArgs s__law_extent) (defBody s__law_extent) (defScope s__law_extent) .none kV__law_extent dc__law_extent pm__law_extent an__law_extent cd__law_extent ct__law_extent), sl__law_extent⟩) (c__law_extent : PySem.W.codeIn K cd__law_extent "_law_extent" = true) (k__law_extent : PySem.W.keepIn K (.ref f__law_extent) = true)
    (a__law_box : PySem.W.nsIn K mainGlobals "_law_box" = some (some (.ref f__law_box))) (l__law_box : K.lookup f__law_box = some ⟨oc__law_box, od__law_box, .func (PySem.W.fnOf "_law_box" "_law_box" (defArgs s__law_box) (defBody s__law_box) (defScope s__law_box) .none kV__law_box dc__law_box pm__law_box an__law_box cd__law_box ct__law_box), sl__law_box⟩) (c__law_box : PySem.W.codeIn K cd__law_box "_law_box" = true) (k__law_box : PySem.W.keepIn K (.ref f__law_box) = true)
    (a__law_style : PySem.W.nsIn K mainGlobals "_law_style" = some (some (.ref f__law_style))) (l__law_style : K.lookup f__law_style = some ⟨oc__law_style, od__law_style, .func (PySem.W.fnOf "_law_style" "_law_style" (defArgs s__law_style) (defBody s__law_style) (defScope s__law_style) .none kV__law_style dc__law_style pm__law_style an__law_style cd__law_style ct__law_style), sl__law_style⟩) (c__law_style : PySem.W.codeIn K cd__law_style "_law_style" = true) (k__law_style : PySem.W.keepIn K (.ref f__law_style) = true)
    (a__law_listed : PySem.W.nsIn K mainGlobals "_law_listed" = some (some (.ref f__law_listed))) (l__law_listed : K.lookup f__law_listed = some ⟨oc__law_listed, od__law_listed, .func (PySem.W.fnOf "_law_listed" "_law_listed" (defArgs s__law_listed) (defBody s__law_listed) (defScope s__law_listed) .none kV__law_listed dc__law_listed pm__law_listed an__law_listed cd__law_listed ct__law_listed), sl__law_listed⟩) (c__law_listed : PySem.W.codeIn K cd__law_listed "_law_listed" = true) (k__law_listed : PySem.W.keepIn K (.ref f__law_listed) = true)
    (a__law_tupled : PySem.W.nsIn K mainGlobals "_law_tupled" = some (some (.ref f__law_tupled))) (l__law_tupled : K.lookup f__law_tupled = some ⟨oc__law_tupled, od__law_tupled, .func (PySem.W.fnOf "_law_tupled" "_law_tupled" (defArgs s__law_tupled) (defBody s__law_tupled) (defScope s__law_tupled) .none kV__law_tupled dc__law_tupled pm__law_tupled an__law_tupled cd__law_tupled ct__law_tupled), sl__law_tupled⟩) (c__law_tupled : PySem.W.codeIn K cd__law_tupled "_law_tupled" = true) (k__law_tupled : PySem.W.keepIn K (.ref f__law_tupled) = true)
    (a__law_handed : PySem.W.nsIn K mainGlobals "_law_handed" = some (some (.ref f__law_handed))) (l__law_handed : K.lookup f__law_handed = some ⟨oc__law_handed, od__law_handed, .func (PySem.W.fnOf "_law_handed" "_law_handed" (defArgs s__law_handed) (defBody s__law_handed) (defScope s__law_handed) .none kV__law_handed dc__law_handed pm__law_handed an__law_handed cd__law_handed ct__law_handed), sl__law_handed⟩) (c__law_handed : PySem.W.codeIn K cd__law_handed "_law_handed" = true) (k__law_handed : PySem.W.keepIn K (.ref f__law_handed) = true)
    (a_law : PySem.W.nsIn K mainGlobals "law" = some (some (.ref f_law))) (l_law : K.lookup f_law = some ⟨oc_law, od_law, .func (PySem.W.fnOf "law" "law" (defArgs s_law) (defBody s_law) (defScope s_law) .none kV_law dc_law pm_law an_law cd_law ct_law), sl_law⟩) (c_law : PySem.W.codeIn K cd_law "law" = true) (k_law : PySem.W.keepIn K (.ref f_law) = true)
    (z_COORDINATE_LIMIT : PySem.W.nsIn K mainGlobals "COORDINATE_LIMIT" = some (some (.int 1000000 tk_COORDINATE_LIMIT)))
    (z_MOST_AXES : PySem.W.nsIn K mainGlobals "MOST_AXES" = some (some (.int 4 tk_MOST_AXES)))
    (z_all : PySem.W.nsIn K mainGlobals "all" = some none)
    (z_bool : PySem.W.nsIn K mainGlobals "bool" = some none)
    (z_int : PySem.W.nsIn K mainGlobals "int" = some none)
    (z_isinstance : PySem.W.nsIn K mainGlobals "isinstance" = some none)
    (z_len : PySem.W.nsIn K mainGlobals "len" = some none)
    (z_list : PySem.W.nsIn K mainGlobals "list" = some none)
    (z_max : PySem.W.nsIn K mainGlobals "max" = some none)
    (z_min : PySem.W.nsIn K mainGlobals "min" = some none)
    (z_range : PySem.W.nsIn K mainGlobals "range" = some none)
    (z_str : PySem.W.nsIn K mainGlobals "str" = some none)
    (z_tuple : PySem.W.nsIn K mainGlobals "tuple" = some none) :
    ∃ fd : FuncData, (∀ (s : Shared) (v : Value), BindsTo s fd ⟨[v], []⟩ [("script", v)]) ∧ ∀ base : Heap, K.In base → base.Ns mainGlobals mg → FnOk l.prog w K mg base CX0 6 fa fd ["script"] (sp_law K) := by
  have e := hfa.symm.trans (PySem.W.mg_of X G a_law)
  cases e
  have T : Txt K mg tk_COORDINATE_LIMIT tk_MOST_AXES := { c_COORDINATE_LIMIT := PySem.W.mg_of X G z_COORDINATE_LIMIT, c_MOST_AXES := PySem.W.mg_of X G z_MOST_AXES, b_all := PySem.W.mg_none_of X G z_all, b_bool := PySem.W.mg_none_of X G z_bool, b_int := PySem.W.mg_none_of X G z_int, b_isinstance := PySem.W.mg_none_of X G z_isinstance, b_len := PySem.W.mg_none_of X G z_len, b_list := PySem.W.mg_none_of X G z_list, b_max := PySem.W.mg_none_of X G z_max, b_min := PySem.W.mg_none_of X G z_min, b_range := PySem.W.mg_none_of X G z_range, b_str := PySem.W.mg_none_of X G z_str, b_tuple := PySem.W.mg_none_of X G z_tuple }
  have F_is_integer := fun_mk (st := s_is_integer) l_is_integer c_is_integer k_is_integer
  have b_is_integer := F_is_integer.binds (ps := ["value"]) fun _ _ _ _ _ _ us hl => match us, hl with | [_], _ => rfl
  have m_is_integer := PySem.W.mg_of X G a_is_integer
  have F_is_sequence := fun_mk (st := s_is_sequence) l_is_sequence c_is_sequence k_is_sequence
  have b_is_sequence := F_is_sequence.binds (ps := ["value"]) fun _ _ _ _ _ _ us hl => match us, hl with | [_], _ => rfl
  have m_is_sequence := PySem.W.mg_of X G a_is_sequence
  have F_is_within := fun_mk (st := s_is_within) l_is_within c_is_within k_is_within
  have b_is_within := F_is_within.binds (ps := ["value", "least", "most"]) fun _ _ _ _ _ _ us hl => match us, hl with | [_, _, _], _ => rfl
  have m_is_within := PySem.W.mg_of X G a_is_within
  have F_is_coordinate := fun_mk (st := s_is_coordinate) l_is_coordinate c_is_coordinate k_is_coordinate
  have b_is_coordinate := F_is_coordinate.binds (ps := ["value"]) fun _ _ _ _ _ _ us hl => match us, hl with | [_], _ => rfl
  have m_is_coordinate := PySem.W.mg_of X G a_is_coordinate
  have F_is_pair := fun_mk (st := s_is_pair) l_is_pair c_is_pair k_is_pair
  have b_is_pair := F_is_pair.binds (ps := ["value"]) fun _ _ _ _ _ _ us hl => match us, hl with | [_], _ => rfl
  have m_is_pair := PySem.W.mg_of X G a_is_pair
  have F_is_box := fun_mk (st := s_is_box) l_is_box c_is_box k_is_box
  have b_is_box := F_is_box.binds (ps := ["value"]) fun _ _ _ _ _ _ us hl => match us, hl with | [_], _ => rfl
  have m_is_box := PySem.W.mg_of X G a_is_box
  have F__law_so := fun_mk (st := s__law_so) l__law_so c__law_so k__law_so
  have b__law_so := F__law_so.binds (ps := ["found", "meant"]) fun _ _ _ _ _ _ us hl => match us, hl with | [_, _], _ => rfl
  have m__law_so := PySem.W.mg_of X G a__law_so
  have F__law_numbers := fun_mk (st := s__law_numbers) l__law_numbers c__law_numbers k__law_numbers
  have b__law_numbers := F__law_numbers.binds (ps := ["script"]) fun _ _ _ _ _ _ us hl => match us, hl with | [_], _ => rfl
  have m__law_numbers := PySem.W.mg_of X G a__law_numbers
  have F__law_draw := fun_mk (st := s__law_draw) l__law_draw c__law_draw k__law_draw
  have b__law_draw := F__law_draw.binds (ps := ["row", "at", "limit"]) fun _ _ _ _ _ _ us hl => match us, hl with | [_, _, _], _ => rfl
  have m__law_draw := PySem.W.mg_of X G a__law_draw
  have F__law_take := fun_mk (st := s__law_take) l__law_take c__law_take k__law_take
  have b__law_take := F__law_take.binds (ps := ["row", "spot", "limit"]) fun _ _ _ _ _ _ us hl => match us, hl with | [_, _, _], _ => rfl
  have m__law_take := PySem.W.mg_of X G a__law_take
  have F__law_wide := fun_mk (st := s__law_wide) l__law_wide c__law_wide k__law_wide
  have b__law_wide := F__law_wide.binds (ps := ["row", "spot", "limit"]) fun _ _ _ _ _ _ us hl => match us, hl with | [_, _, _], _ => rfl
  have m__law_wide := PySem.W.mg_of X G a__law_wide
  have F__law_clip := fun_mk (st := s__law_clip) l__law_clip c__law_clip k__law_clip
  have b__law_clip := F__law_clip.binds (ps := ["number"]) fun _ _ _ _ _ _ us hl => match us, hl with | [_], _ => rfl
  have m__law_clip := PySem.W.mg_of X G a__law_clip
  have F__law_middle := fun_mk (st := s__law_middle) l__law_middle c__law_middle k__law_middle
  have b__law_middle := F__law_middle.binds (ps := ["row", "spot", "axes", "style"]) fun _ _ _ _ _ _ us hl => match us, hl with | [_, _, _, _], _ => rfl
  have m__law_middle := PySem.W.mg_of X G a__law_middle
  have F__law_extent := fun_mk (st := s__law_extent) l__law_extent c__law_extent k__law_extent
  have b__law_extent := F__law_extent.binds (ps := ["row", "spot", "style"]) fun _ _ _ _ _ _ us hl => match us, hl with | [_, _, _], _ => rfl
  have m__law_extent := PySem.W.mg_of X G a__law_extent
  have F__law_box := fun_mk (st := s__law_box) l__law_box c__law_box k__law_box
  have b__law_box := F__law_box.binds (ps := ["row", "spot", "style", "middle"]) fun _ _ _ _ _ _ us hl => match us, hl with | [_, _, _, _], _ => rfl
  have m__law_box := PySem.W.mg_of X G a__law_box
  have F__law_style := fun_mk (st := s__law_style) l__law_style c__law_style k__law_style
  have b__law_style := F__law_style.binds (ps := ["row", "spot"]) fun _ _ _ _ _ _ us hl => match us, hl with | [_, _], _ => rfl
  have m__law_style := PySem.W.mg_of X G a__law_style
  have F__law_listed := fun_mk (st := s__law_listed) l__law_listed c__law_listed k__law_listed
  have b__law_listed := F__law_listed.binds (ps := ["value"]) fun _ _ _ _ _ _ us hl => match us, hl with | [_], _ => rfl
  have m__law_listed := PySem.W.mg_of X G a__law_listed
  have F__law_tupled := fun_mk (st := s__law_tupled) l__law_tupled c__law_tupled k__law_tupled
  have b__law_tupled := F__law_tupled.binds (ps := ["value"]) fun _ _ _ _ _ _ us hl => match us, hl with | [_], _ => rfl
  have m__law_tupled := PySem.W.mg_of X G a__law_tupled
  have F__law_handed := fun_mk (st := s__law_handed) l__law_handed c__law_handed k__law_handed
  have b__law_handed := F__law_handed.binds (ps := ["row", "spot", "value"]) fun _ _ _ _ _ _ us hl => match us, hl with | [_, _, _], _ => rfl
  have m__law_handed := PySem.W.mg_of X G a__law_handed
  have F_law := fun_mk (st := s_law) l_law c_law k_law
  have b_law := F_law.binds (ps := ["script"]) fun _ _ _ _ _ _ us hl => match us, hl with | [_], _ => rfl
  have m_law := PySem.W.mg_of X G a_law
  refine ⟨PySem.W.fnOf "law" "law" (defArgs s_law) (defBody s_law) (defScope s_law) .none kV_law dc_law pm_law an_law cd_law ct_law, fun s v => .of_eq rfl, fun base _ _ => ?_⟩
  have Q_is_integer := ok_is_integer (P := l.prog) (w := w) (base := base) F_is_integer T 
  have O_is_integer : Ok l.prog w K mg base 1 "is_integer" ["value"] (sp_is_integer) := ⟨_, _, Q_is_integer, m_is_integer, F_is_integer.kp, b_is_integer⟩
  have Q_is_sequence := ok_is_sequence (P := l.prog) (w := w) (base := base) F_is_sequence T 
  have O_is_sequence : Ok l.prog w K mg base 1 "is_sequence" ["value"] (sp_is_sequence) := ⟨_, _, Q_is_sequence, m_is_sequence, F_is_sequence.kp, b_is_sequence⟩
  have Q_is_within := ok_is_within (P := l.prog) (w := w) (base := base) F_is_within T O_is_integer
  have O_is_within : Ok l.prog w K mg base 2 "is_within" ["value", "least", "most"] (sp_is_within) := ⟨_, _, Q_is_within, m_is_within, F_is_within.kp, b_is_within⟩
  have Q_is_coordinate := ok_is_coordinate (P := l.prog) (w := w) (base := base) F_is_coordinate T O_is_within
  have O_is_coordinate : Ok l.prog w K mg base 3 "is_coordinate" ["value"] (sp_is_coordinate) := ⟨_, _, Q_is_coordinate, m_is_coordinate, F_is_coordinate.kp, b_is_coordinate⟩
  have Q_is_pair := ok_is_pair (P := l.prog) (w := w) (base := base) F_is_pair T O_is_coordinate O_is_sequence
  have O_is_pair : Ok l.prog w K mg base 4 "is_pair" ["value"] (sp_is_pair) := ⟨_, _, Q_is_pair, m_is_pair, F_is_pair.kp, b_is_pair⟩
  have Q_is_box := ok_is_box (P := l.prog) (w := w) (base := base) F_is_box T O_is_pair O_is_sequence
  have O_is_box : Ok l.prog w K mg base 5 "is_box" ["value"] (sp_is_box) := ⟨_, _, Q_is_box, m_is_box, F_is_box.kp, b_is_box⟩
  have kb_is_box_0_value : OkK l.prog w K mg base 5 "is_box" ["value"] (sp_is_box) 0 ["value"] [0] := ⟨_, _, Q_is_box, m_is_box, F_is_box.kp, fun us ws h1 h2 => match us, ws, h1, h2 with | [], [_], _, _ => rfl⟩
  have O__law_so : Ok l.prog w K mg base 4 "_law_so" ["found", "meant"] (sp__law_so 4) := rok__law_so F__law_so T m__law_so b__law_so 4
  have Q__law_numbers := ok__law_numbers (P := l.prog) (w := w) (base := base) F__law_numbers T 
  have O__law_numbers : Ok l.prog w K mg base 1 "_law_numbers" ["script"] (sp__law_numbers K) := ⟨_, _, Q__law_numbers, m__law_numbers, F__law_numbers.kp, b__law_numbers⟩
  have Q__law_draw := ok__law_draw (P := l.prog) (w := w) (base := base) F__law_draw T 
  have O__law_draw : Ok l.prog w K mg base 1 "_law_draw" ["row", "at", "limit"] (sp__law_draw) := ⟨_, _, Q__law_draw, m__law_draw, F__law_draw.kp, b__law_draw⟩
  have Q__law_take := ok__law_take (P := l.prog) (w := w) (base := base) F__law_take T O__law_draw
  have O__law_take : Ok l.prog w K mg base 2 "_law_take" ["row", "spot", "limit"] (sp__law_take) := ⟨_, _, Q__law_take, m__law_take, F__law_take.kp, b__law_take⟩
  have Q__law_wide := ok__law_wide (P := l.prog) (w := w) (base := base) F__law_wide T O__law_take
  have O__law_wide : Ok l.prog w K mg base 3 "_law_wide" ["row", "spot", "limit"] (sp__law_wide) := ⟨_, _, Q__law_wide, m__law_wide, F__law_wide.kp, b__law_wide⟩
  have Q__law_clip := ok__law_clip (P := l.prog) (w := w) (base := base) F__law_clip T 
  have O__law_clip : Ok l.prog w K mg base 1 "_law_clip" ["number"] (sp__law_clip) := ⟨_, _, Q__law_clip, m__law_clip, F__law_clip.kp, b__law_clip⟩
  have Q__law_middle := ok__law_middle (P := l.prog) (w := w) (base := base) F__law_middle T O__law_take O__law_wide
  have O__law_middle : Ok l.prog w K mg base 4 "_law_middle" ["row", "spot", "axes", "style"] (sp__law_middle) := ⟨_, _, Q__law_middle, m__law_middle, F__law_middle.kp, b__law_middle⟩
  have Q__law_extent := ok__law_extent (P := l.prog) (w := w) (base := base) F__law_extent T O__law_take O__law_wide
  have O__law_extent : Ok l.prog w K mg base 4 "_law_extent" ["row", "spot", "style"] (sp__law_extent) := ⟨_, _, Q__law_extent, m__law_extent, F__law_extent.kp, b__law_extent⟩
  have Q__law_box := ok__law_box (P := l.prog) (w := w) (base := base) F__law_box T O__law_clip O__law_extent O__law_take
  have O__law_box : Ok l.prog w K mg base 5 "_law_box" ["row", "spot", "style", "middle"] (sp__law_box) := ⟨_, _, Q__law_box, m__law_box, F__law_box.kp, b__law_box⟩
  have Q__law_style := ok__law_style (P := l.prog) (w := w) (base := base) F__law_style T O__law_take
  have O__law_style : Ok l.prog w K mg base 3 "_law_style" ["row", "spot"] (sp__law_style) := ⟨_, _, Q__law_style, m__law_style, F__law_style.kp, b__law_style⟩
  have O__law_listed : Ok l.prog w K mg base 3 "_law_listed" ["value"] (sp__law_listed 3) := rok__law_listed F__law_listed T m__law_listed b__law_listed 3
  have O__law_tupled : Ok l.prog w K mg base 3 "_law_tupled" ["value"] (sp__law_tupled 3) := rok__law_tupled F__law_tupled T m__law_tupled b__law_tupled 3
  have Q__law_handed := ok__law_handed (P := l.prog) (w := w) (base := base) F__law_handed T O__law_listed O__law_take
  have O__law_handed : Ok l.prog w K mg base 4 "_law_handed" ["row", "spot", "value"] (sp__law_handed) := ⟨_, _, Q__law_handed, m__law_handed, F__law_handed.kp, b__law_handed⟩
  exact ok_law F_law T O__law_box O__law_handed O__law_listed O__law_middle O__law_numbers O__law_so O__law_style O__law_take O__law_tupled O_is_box kb_is_box_0_value
theorem walk {l : PySem.W.OpenLaw} {q : Program} {loose : List Str} {XP : (Str → Option Value) → Heap → Prop} {YP : World → Heap → Prop} {d : DefRec} {K : Params → PySem.W.Frag} (hn : l.most = some 63) (hdf : d.params.defaults = [])
    (hY : ∀ (w : World) (h : Heap), YP w h → (K w.params).In h)
    (F : ∀ (w : World) (mg : Str → Option Value) (fa : Addr) (h : Heap), (K w.params).In h → h.Ns mainGlobals mg → mg d.name = some (.ref fa) →
      ∃ fd : FuncData, (∀ (s : Shared) (u : Value), BindsTo s fd ⟨[u], []⟩ [("script", u)]) ∧ ∀ base : Heap, (K w.params).In base → base.Ns mainGlobals mg → FnOk l.prog w (K w.params) mg base CX0 6 fa fd ["script"] (sp_law (K w.params))) :
    PySem.W.WalkO q loose XP YP l.row.toRowW d [] (fun f vs => PySem.call f vs) :=
  L2.walk_of (n := 63) (k := 6) (x := "script") (CX := fun _ => CX0) (sp := fun w => sp_law (K w.params)) hn (by decide) hdf ⟨rfl, by decide, by decide⟩ hY F (fun _ _ a ns hl hO hS => ⟨a, ns, rfl, hS, hl, fun _ => rfl⟩) fun _ _ _ _ _ z => z
end Bx
open PySem PySem.W PyProof.Rows
set_option maxRecDepth 100000 in
set_option maxHeartbeats 0 in
theorem PySem.Challenge.cw_boundstead_k84_boxes_told_apart_holds : PySem.Challenge.rw_boundstead_k84_boxes_told_apart.Holds := by
  w_on; o_law; k_head; (case hw => w_witness2)
  k_fill
  refine Bx.walk (l := PySem.Challenge.rw_boundstead_k84_boxes_told_apart) rfl rfl (fun w h Y => PySem.W.kIn_of Y) ?F
  case F =>
    intro w mg fa h KX G hmg
    refine' Bx.all_mk KX G hmg ?a_is_integer ?l_is_integer ?c_is_integer ?k_is_integer ?a_is_sequence ?l_is_sequence ?c_is_sequence ?k_is_sequence ?a_is_within ?l_is_within ?c_is_within ?k_is_within ?a_is_coordinate ?l_is_coordinate ?c_is_coordinate ?k_is_coordinate ?a_is_pair ?l_is_pair ?c_is_pair ?k_is_pair ?a_is_box ?l_is_box ?c_is_box ?k_is_box ?a__law_so ?l__law_so ?c__law_so ?k__law_so ?a__law_numbers ?l__law_numbers ?c__law_numbers ?k__law_numbers ?a__law_draw ?l__law_draw ?c__law_draw ?k__law_draw ?a__law_take ?l__law_take ?c__law_take ?k__law_take ?a__law_wide ?l__law_wide ?c__law_wide ?k__law_wide ?a__law_clip ?l__law_clip ?c__law_clip ?k__law_clip ?a__law_middle ?l__law_middle ?c__law_middle ?k__law_middle ?a__law_extent ?l__law_extent ?c__law_extent ?k__law_extent ?a__law_box ?l__law_box ?c__law_box ?k__law_box ?a__law_style ?l__law_style ?c__law_style ?k__law_style ?a__law_listed ?l__law_listed ?c__law_listed ?k__law_listed ?a__law_tupled ?l__law_tupled ?c__law_tupled ?k__law_tupled ?a__law_handed ?l__law_handed ?c__law_handed ?k__law_handed ?a_law ?l_law ?c_law ?k_law ?z_COORDINATE_LIMIT ?z_MOST_AXES ?z_all ?z_bool ?z_int ?z_isinstance ?z_len ?z_list ?z_max ?z_min ?z_range ?z_str ?z_tuple
    (case a_is_integer => k_is); (case l_is_integer => k_is); (case c_is_integer => k_is); (case k_is_integer => k_is); (case a_is_sequence => k_is); (case l_is_sequence => k_is)
    (case c_is_sequence => k_is); (case k_is_sequence => k_is); (case a_is_within => k_is); (case l_is_within => k_is); (case c_is_within => k_is); (case k_is_within => k_is)
    (case a_is_coordinate => k_is); (case l_is_coordinate => k_is); (case c_is_coordinate => k_is); (case k_is_coordinate => k_is); (case a_is_pair => k_is); (case l_is_pair => k_is)
    (case c_is_pair => k_is); (case k_is_pair => k_is); (case a_is_box => k_is); (case l_is_box => k_is); (case c_is_box => k_is); (case k_is_box => k_is)
    (case a__law_so => k_is); (case l__law_so => k_is); (case c__law_so => k_is); (case k__law_so => k_is); (case a__law_numbers => k_is); (case l__law_numbers => k_is)
    (case c__law_numbers => k_is); (case k__law_numbers => k_is); (case a__law_draw => k_is); (case l__law_draw => k_is); (case c__law_draw => k_is); (case k__law_draw => k_is)
    (case a__law_take => k_is); (case l__law_take => k_is); (case c__law_take => k_is); (case k__law_take => k_is); (case a__law_wide => k_is); (case l__law_wide => k_is)
    (case c__law_wide => k_is); (case k__law_wide => k_is); (case a__law_clip => k_is); (case l__law_clip => k_is); (case c__law_clip => k_is); (case k__law_clip => k_is)
    (case a__law_middle => k_is); (case l__law_middle => k_is); (case c__law_middle => k_is); (case k__law_middle => k_is); (case a__law_extent => k_is); (case l__law_extent => k_is)
    (case c__law_extent => k_is); (case k__law_extent => k_is); (case a__law_box => k_is); (case l__law_box => k_is); (case c__law_box => k_is); (case k__law_box => k_is)
    (case a__law_style => k_is); (case l__law_style => k_is); (case c__law_style => k_is); (case k__law_style => k_is); (case a__law_listed => k_is); (case l__law_listed => k_is)
    (case c__law_listed => k_is); (case k__law_listed => k_is); (case a__law_tupled => k_is); (case l__law_tupled => k_is); (case c__law_tupled => k_is); (case k__law_tupled => k_is)
    (case a__law_handed => k_is); (case l__law_handed => k_is); (case c__law_handed => k_is); (case k__law_handed => k_is); (case a_law => k_is); (case l_law => k_is)
    (case c_law => k_is); (case k_law => k_is); (case z_COORDINATE_LIMIT => k_is); (case z_MOST_AXES => k_is); (case z_all => k_is); (case z_bool => k_is)
    (case z_int => k_is); (case z_isinstance => k_is); (case z_len => k_is); (case z_list => k_is); (case z_max => k_is); (case z_min => k_is)
    (case z_range => k_is); (case z_str => k_is); (case z_tuple => k_is)
