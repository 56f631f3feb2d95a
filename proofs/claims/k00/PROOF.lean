import PyProof.Rows.All
import Wide.All
import OpenK.AllK
import Wide.FinOn
import HandS.ForMost
import HandS.ForExc
import HandS.IsInst
import HandS.TupAny
import HandS.TupMul
import HandS.Zip
import HandS.Star
import HandS.Flt
import HandS.Defaults
import HandS.Gcd
import HandS.Wide
import KE.KExcIs
import HandS.ExcValue
import HandS.MakeKw
import HandS.ExcOwn
import PySem.Challenge.RW_boundstead_k00_errors
set_option Elab.async false
set_option linter.all false
set_option maxRecDepth 100000
namespace Bx
open PySem L2
section
variable {X : Cx}
/-! ### joined rules -/
def rAddX (K : PySem.W.Frag) : R2 := fun x y H Q => (∃ i j, x = .int i ∧ y = .int j ∧ Q (.int (i + j)) H) ∨ rCat x y H Q ∨ rCatA K x y H Q
theorem op_addX : OpR X (binaryOp .Add) (rAddX X.K) := op_add.or (op_cat.or op_catA)
def rMulX (K : PySem.W.Frag) : R2 := fun x y H Q => (∃ i j, x = .int i ∧ y = .int j ∧ IntMulOk i j ∧ Q (.int (i * j)) H) ∨ rRepT K x y H Q
theorem op_mulA : OpR X (binaryOp .Mult) (rI IntMulOk fun i j => .int (i * j)) := opI fun _ _ _ _ _ _ _ hc q => PyProof.Rows.mul_int q hc
theorem op_mulX : OpR X (binaryOp .Mult) (rMulX X.K) := op_mulA.or op_repT
def rEqX (K : PySem.W.Frag) : R2 := fun x y H Q => rEq x y H Q ∨ rEqD K x y H Q
theorem op_eqX (hu : X.A.units + 64 < cLine) : OpR X (compareOp .Eq) (rEqX X.K) := op_eq.or (op_eqD hu)
def rNeX (K : PySem.W.Frag) : R2 := fun x y H Q => rNe x y H Q ∨ rNeD K x y H Q
theorem op_neX (hu : X.A.units + 64 < cLine) : OpR X (compareOp .NotEq) (rNeX X.K) := op_ne.or (op_neD hu)
def rIxX (K : PySem.W.Frag) : R2 := fun x y H Q => rIxL K x y H Q ∨ rIxT K x y H Q
theorem ix_X : IxR X (rIxX X.K) := ix_list.or ix_tup
def rSlX (K : PySem.W.Frag) : V → Option Int → Option Int → Hp → VK → Prop := fun x lo hi H Q => rSlL K x lo hi H Q ∨ rSlA K x lo hi H Q
theorem sl_X : SlR X (rSlX X.K) := sl_list.or sl_tupA
def gX (K : PySem.W.Frag) (n : Nat) (t : TGs) : TG := fun v σ H Q => gTup K n t v σ H Q ∨ gLst K n t v σ H Q
theorem pg_X {es : List Expr} {k : Nat} {t : TGs} {n : Nat} {pos : Pos} (hc : X.calm = true) (h : PGs X es t)
    (hn : (assignEach es X.env).length = n := by rfl) (hst : (assignEach es X.env).findIdx? (·.1) = none := by rfl) : PG X (.Tuple es k pos) (gX X.K n t) :=
  ⟨fun pins s σ H v u Q I r q => q.elim (fun q => (pg_tup hc h hn hst).run pins s σ H v u Q I r q) fun q => (pg_lst hc h hn hst).run pins s σ H v u Q I r q⟩
/-- a list or a tuple walked -/
def iX (K : PySem.W.Frag) (tl : TE) : TI := fun σ H R => tl σ H fun x H1 => ∃ a, x = .ref a ∧ (((∃ xs, SqL K H1 a xs) ∧ R (Itl K a) H1) ∨ ((∃ xs, SqT K H1 a xs) ∧ R (Itt K a) H1))
theorem pi_X {tg l : Expr} {tl : TE} (hl : PE X l tl) : PI X tg l (iX X.K tl) := by
  refine ⟨fun pins s σ H R I h => ?_⟩
  refine thn (hl.run pins s σ H _ I h) fun v s1 ⟨x, H1, I1, r1, q1⟩ => ?_
  obtain ⟨a, e, q⟩ := q1
  subst e
  cases r1
  rcases q with ⟨⟨xs, hq⟩, q⟩ | ⟨⟨xs, hq⟩, q⟩
  · obtain ⟨its, rv, p, hz⟩ := I1.list hq
    refine wpAny_pyIter_list p.isList ?_
    refine ⟨s1.heap.objs.size, [s1.heap.objs.size], _, _, H1, rfl, I1.kept (t' := s1.toks) fun b o e => Heap.get?_push_of_some _ e, turn_list a _, ⟨_, Heap.get?_push_size _ rfl, rfl, rfl⟩, fun b hb => ?_, q⟩
    have e : b = s1.heap.objs.size := by simpa using hb
    subst e
    exact I1.fpOk (Nat.le_refl _) (I1.hok.fresh (Nat.le_refl _))
  · obtain ⟨its, rv, p, hz⟩ := I1.tuple hq
    refine wpAny_pyIter_tuple (show s1.heap.IsTuple a its.toArray from p) ?_
    refine ⟨s1.heap.objs.size, [s1.heap.objs.size], _, _, H1, rfl, I1.kept (t' := s1.toks) fun b o e => Heap.get?_push_of_some _ e, turn_tuple a _, ⟨_, Heap.get?_push_size _ rfl, rfl, rfl⟩, fun b hb => ?_, q⟩
    have e : b = s1.heap.objs.size := by simpa using hb
    subst e
    exact I1.fpOk (Nat.le_refl _) (I1.hok.fresh (Nat.le_refl _))
end
/-! ### named rules -/
section
variable {X : Cx}
def rSub : R2 := fun x y H Q => ∃ i j, x = .int i ∧ y = .int j ∧ Q (.int (i - j)) H
theorem o_sub : OpR X (binaryOp .Sub) rSub := op_sub
def CDivA (_ j : Int) : Prop := j ≠ 0 ∧ j.natAbs.log2 < 9000
def rFdv : R2 := fun x y H Q => ∃ i j, x = .int i ∧ y = .int j ∧ CDivA i j ∧ Q (.int (i.fdiv j)) H
theorem o_fdiv : OpR X (binaryOp .FloorDiv) rFdv := opI (C := CDivA) (g := fun i j => i.fdiv j) fun i j _ _ _ _ _ hc q => PyProof.Rows.floordiv_int hc.1 q (.inl (PyProof.noPylong_of_log2 hc.2))
def rModI : R2 := fun x y H Q => ∃ i j, x = .int i ∧ y = .int j ∧ 0 < j ∧ Q (.int (i % j)) H
theorem o_mod : OpR X (binaryOp .Mod) rModI := op_mod
def rPow : R2 := fun x y H Q => ∃ i j, x = .int i ∧ y = .int j ∧ CPow i j ∧ Q (.int (i ^ j.toNat)) H
theorem o_pow : OpR X (binaryOp .Pow) rPow := op_pow
def rLt : R2 := fun x y H Q => ∃ i j, x = .int i ∧ y = .int j ∧ Q (.bl (decide (i < j))) H
theorem o_lt : OpR X (compareOp .Lt) rLt := op_lt
def rLe : R2 := fun x y H Q => ∃ i j, x = .int i ∧ y = .int j ∧ Q (.bl (decide (i ≤ j))) H
theorem o_le : OpR X (compareOp .LtE) rLe := op_le
def rGt : R2 := fun x y H Q => ∃ i j, x = .int i ∧ y = .int j ∧ Q (.bl (decide (j < i))) H
theorem o_gt : OpR X (compareOp .Gt) rGt := op_gt
def rGe : R2 := fun x y H Q => ∃ i j, x = .int i ∧ y = .int j ∧ Q (.bl (decide (j ≤ i))) H
theorem o_ge : OpR X (compareOp .GtE) rGe := op_ge
def rNeg : V → Hp → VK → Prop := fun x H Q => ∃ i, x = .int i ∧ Q (.int (-i)) H
theorem u_neg : UnR X (unaryOp .USub) rNeg := un_neg
def rIsNon : R2 := fun x y H Q => y = .non ∧ Q (.bl (decide (x = .non))) H
theorem o_isN : OpR X (compareOp .Is) rIsNon := op_isN
def rNotNon : R2 := fun x y H Q => y = .non ∧ Q (.bl (!decide (x = .non))) H
theorem o_notN : OpR X (compareOp .IsNot) rNotNon := op_notN
def rLen (K : PySem.W.Frag) : List V → Hp → VK → Prop := fun xs H Q => ∃ p ys, xs = [.ref p] ∧ (SqL K H p ys ∨ SqT K H p ys) ∧ Q (.int ys.length) H
theorem c_len : CallR X (.builtin "len") (rLen X.K) := call_len_seq
def rAbs : List V → Hp → VK → Prop := fun xs H Q => ∃ i, xs = [.int i] ∧ Q (.int (if i < 0 then -i else i)) H
theorem c_abs : CallR X (.builtin "abs") rAbs := call_abs
def rIntO : List V → Hp → VK → Prop := fun xs H Q => (∃ i, xs = [.int i] ∧ Q (.int i) H) ∨ ∃ k, xs = [.bl k] ∧ Q (.int (if k then 1 else 0)) H
theorem c_int : CallR X (.type "int") rIntO := call_int1
def rTupOf (K : PySem.W.Frag) : List V → Hp → VK → Prop := fun xs H Q => ∃ p ys, xs = [.ref p] ∧ ((SqL K H p ys ∧ ∀ l, H l = none → Q (.ref l) (upd H l (.tup ys))) ∨ (SqT K H p ys ∧ Q (.ref p) H))
theorem c_tuple : CallR X (.type "tuple") (rTupOf X.K) := call_tuple_of
def rMx2 : List V → Hp → VK → Prop := fun xs H Q => ∃ i j, xs = [.int i, .int j] ∧ Q (.int (if j > i then j else i)) H
theorem c_max2 (hc : X.calm = true) : CallR X (.builtin "max") rMx2 := call_max2 hc
def rMn2 : List V → Hp → VK → Prop := fun xs H Q => ∃ i j, xs = [.int i, .int j] ∧ Q (.int (if j < i then j else i)) H
theorem c_min2 (hc : X.calm = true) : CallR X (.builtin "min") rMn2 := call_min2 hc
def rMx3 : List V → Hp → VK → Prop := rNuC3 nuMax3
theorem c_max3 (hc : X.calm = true) : CallR X (.builtin "max") rMx3 := call_max3Nu hc
end
/-- ways joined behind a statement -/
def tCut (t u : TS) : TS := fun D σ H => ∃ Mid : L2.St → Hp → Prop, t { D with nx := Mid } σ H ∧ ∀ σ' H', Mid σ' H' → u D σ' H'
theorem pss_cut {X : Cx} {st : Stmt} {rest : List Stmt} {t u : TS} (h1 : PS X st t) (h2 : PSs X rest u) : PSs X (st :: rest) (tCut t u) := by
  refine ⟨fun pins s σ H D I h => ?_⟩
  obtain ⟨Mid, hm, hu⟩ := h
  refine wpAny_execs_cons (thn (h1.run pins s σ H { D with nx := Mid } I hm) fun f s1 q => ?_)
  cases f with
  | next =>
    obtain ⟨σ', H', I', q⟩ := q
    exact h2.run pins s1 σ' H' D I' (hu σ' H' q)
  | ret v => exact q
  | brk => exact q
  | cont => exact q
/-! ### defs as a bundle, their calls -/
structure Ok (P : Program) (w : World) (K : PySem.W.Frag) (mg : Str → Option Value) (base : Heap) (k : Nat) (x : Str) (ps : List Str) (sp : Sp) : Prop where
  ex : ∃ f fd, FnOk P w K mg base CX0 k f fd ps sp ∧ mg x = some (.ref f) ∧ PySem.W.keepIn K (.ref f) = true ∧ Binds K fd ps []
theorem Ok.imp {P : Program} {w : World} {K : PySem.W.Frag} {mg : Str → Option Value} {base : Heap} {k : Nat} {x : Str} {ps : List Str} {sp sp' : Sp} (O : Ok P w K mg base k x ps sp) (h : ∀ vs H Q E, sp' vs H Q E → sp vs H Q E) : Ok P w K mg base k x ps sp' := by
  obtain ⟨f, fd, F, a, b, c⟩ := O.ex
  exact ⟨f, fd, F.imp h, a, b, c⟩
def tCallO (sp : Sp) (t : TA) : TE := fun σ H Q => t σ H fun vs H1 => sp vs H1 Q E0
theorem pe_cO {X : Cx} {k : Nat} {x : Str} {ps : List Str} {sp : Sp} {e : Expr} {es : List Expr} {t : TA} {p pos : Pos} (O : Ok X.prog X.w X.K X.mg X.base k x ps sp) (hr : Room k X.A) (hg : Gl X x) (ha : PA X (e :: es) t)
    (hdb : (x == ("__debug__" : Str)) = false := by decide) (he : starEach (e :: es) X.env = (false, eval e X.env) :: starEach es X.env := by rfl) (hpl : (backTo pos (starEach es X.env)).any (·.1) = false := by rfl) :
    PE X (.Call (.Name x p) (e :: es) [] pos) (tCallO sp t) := by
  obtain ⟨f, fd, F, hm, hk, hb⟩ := O.ex
  refine ⟨fun pins s σ H Q I h => (pe_call (E := E0) F hr hg hm hk hb .nil pass0 ha hdb he hpl).run pins s σ H Q I ?_⟩
  have e1 : (fun (vs : List V) H1 => sp (vs ++ []) H1 Q E0) = fun vs H1 => sp vs H1 Q E0 := by
    funext vs H1
    rw [List.append_nil]
  show t σ H fun vs H1 => sp (vs ++ []) H1 Q E0
  rw [e1]
  exact h
/-- with keywords: n places, then the names ks; idx says where each further parameter's value stands among them -/
structure OkK (P : Program) (w : World) (K : PySem.W.Frag) (mg : Str → Option Value) (base : Heap) (k : Nat) (x : Str) (ps : List Str) (sp : Sp) (n : Nat) (ks : List Str) (idx : List Nat) : Prop where
  ex : ∃ f fd, FnOk P w K mg base CX0 k f fd ps sp ∧ mg x = some (.ref f) ∧ PySem.W.keepIn K (.ref f) = true ∧
    ∀ us ws : List Value, us.length = n → ws.length = ks.length → bindArgs fd ⟨us, ks.zip ws⟩ = pure (ps.zip (us ++ idx.map fun i => ws.getD i .none))
theorem vals_getD : ∀ {zs : List V} {ws : List Value} (_ : Vals zs ws) (i : Nat), RelV (zs.getD i .non) (ws.getD i .none)
  | _, _, .nil, i => by
    show Value.none = Value.none
    rfl
  | _, _, .cons r rs, 0 => r
  | _, _, .cons r rs, i + 1 => vals_getD rs i
theorem vals_idx {zs : List V} {ws : List Value} (h : Vals zs ws) : ∀ idx : List Nat, Vals (idx.map fun i => zs.getD i .non) (idx.map fun i => ws.getD i .none)
  | [] => .nil
  | i :: l => .cons (vals_getD h i) (vals_idx h l)
theorem OkK.kbn {P : Program} {w : World} {K : PySem.W.Frag} {mg : Str → Option Value} {base : Heap} {k n : Nat} {x : Str} {ps ks : List Str} {sp : Sp} {idx : List Nat} (O : OkK P w K mg base k x ps sp n ks idx) :
    ∃ f fd, FnOk P w K mg base CX0 k f fd ps sp ∧ mg x = some (.ref f) ∧ PySem.W.keepIn K (.ref f) = true ∧ KBn K fd ps n ks (fun us ws => us ++ idx.map fun i => ws.getD i .none) (fun vs zs => vs ++ idx.map fun i => zs.getD i .non) := by
  obtain ⟨f, fd, F, a, b, c⟩ := O.ex
  exact ⟨f, fd, F, a, b, fun s us ws _ h1 h2 => .of_eq (c us ws h1 h2), fun r1 r2 => r1.append (vals_idx r2 idx)⟩
def tCallOK (n m : Nat) (sp : Sp) (idx : List Nat) (t tk : TA) : TE := fun σ H Q => t σ H fun vs H1 => tk σ H1 fun zs H2 => vs.length = n ∧ zs.length = m ∧ sp (vs ++ idx.map fun i => zs.getD i .non) H2 Q E0
section
variable {X : Cx} {k n : Nat} {x : Str} {ps ks : List Str} {sp : Sp} {idx : List Nat} {e : Expr} {es : List Expr} {kws : List Keyword} {t tk : TA} {p pos : Pos}
theorem pe_cK {m : Nat} (O : OkK X.prog X.w X.K X.mg X.base k x ps sp n ks idx) (hr : Room k X.A) (hg : Gl X x) (ha : PA X (e :: es) t) (hkw : PK X kws tk)
    (hall : (backToKw pos (keywordEach kws X.env)).all (·.1.isSome) = true := by rfl) (hks : (backToKw pos (keywordEach kws X.env)).filterMap (·.1) = ks := by rfl)
    (hdb : (x == ("__debug__" : Str)) = false := by decide) (hm : ks.length = m := by rfl) (he : starEach (e :: es) X.env = (false, eval e X.env) :: starEach es X.env := by rfl)
    (hpl : ((backTo pos (starEach (e :: es) X.env)).any (·.1) || (backToKw pos (keywordEach kws X.env)).any (·.1.isNone)) = false := by rfl) :
    PE X (.Call (.Name x p) (e :: es) kws pos) (tCallOK n m sp idx t tk) := by
  subst hm
  obtain ⟨f, fd, F, hmg, hk, hb⟩ := O.kbn
  exact pe_callN F hr hg hmg hk hb pass0 ha hkw hall hks hdb he hpl
theorem pe_cK0 {m : Nat} (O : OkK X.prog X.w X.K X.mg X.base k x ps sp 0 ks idx) (hr : Room k X.A) (hg : Gl X x) (hkw : PK X kws tk)
    (hall : (backToKw pos (keywordEach kws X.env)).all (·.1.isSome) = true := by rfl) (hks : (backToKw pos (keywordEach kws X.env)).filterMap (·.1) = ks := by rfl)
    (hdb : (x == ("__debug__" : Str)) = false := by decide) (hm : ks.length = m := by rfl) (hpl : ((backTo pos (starEach [] X.env)).any (·.1) || (backToKw pos (keywordEach kws X.env)).any (·.1.isNone)) = false := by rfl) :
    PE X (.Call (.Name x p) [] kws pos) (tCallOK 0 m sp idx tNil tk) := by
  subst hm
  obtain ⟨f, fd, F, hmg, hk, hb⟩ := O.kbn
  refine ⟨fun pins s σ H Q I h => ?_⟩
  refine wpAny_Call_Name_kw (ld_glob I hg hmg ?_ hdb)
  refine PySem.W.callWith_KW0 (h₀ := X.base) I.ok.mod.kin hk hall ?_ hpl
  refine thn (hkw.run pos pins s σ H _ I h) fun ws s2 ⟨zs, H2, I2, rz, l1, l2, q2⟩ => ⟨I2.kIn, ?_⟩
  rw [hks]
  exact run_fnN (us := []) F hr hb pass0 I2 .nil rz l1 l2 q2
end
/-! ### defs that may raise -/
structure OkX (P : Program) (w : World) (K : PySem.W.Frag) (mg : Str → Option Value) (base : Heap) (k : Nat) (x : Str) (ps : List Str) (sp : Sp) : Prop where
  ex : ∃ f fd, FnOk P w K mg base (L2.CX P w) k f fd ps sp ∧ mg x = some (.ref f) ∧ PySem.W.keepIn K (.ref f) = true ∧ Binds K fd ps []
structure OkXK (P : Program) (w : World) (K : PySem.W.Frag) (mg : Str → Option Value) (base : Heap) (k : Nat) (x : Str) (ps : List Str) (sp : Sp) (n : Nat) (ks : List Str) (idx : List Nat) : Prop where
  ex : ∃ f fd, FnOk P w K mg base (L2.CX P w) k f fd ps sp ∧ mg x = some (.ref f) ∧ PySem.W.keepIn K (.ref f) = true ∧
    ∀ us ws : List Value, us.length = n → ws.length = ks.length → bindArgs fd ⟨us, ks.zip ws⟩ = pure (ps.zip (us ++ idx.map fun i => ws.getD i .none))
theorem OkXK.kbn {P : Program} {w : World} {K : PySem.W.Frag} {mg : Str → Option Value} {base : Heap} {k n : Nat} {x : Str} {ps ks : List Str} {sp : Sp} {idx : List Nat} (O : OkXK P w K mg base k x ps sp n ks idx) :
    ∃ f fd, FnOk P w K mg base (L2.CX P w) k f fd ps sp ∧ mg x = some (.ref f) ∧ PySem.W.keepIn K (.ref f) = true ∧ KBn K fd ps n ks (fun us ws => us ++ idx.map fun i => ws.getD i .none) (fun vs zs => vs ++ idx.map fun i => zs.getD i .non) := by
  obtain ⟨f, fd, F, a, b, c⟩ := O.ex
  exact ⟨f, fd, F, a, b, fun s us ws _ h1 h2 => .of_eq (c us ws h1 h2), fun r1 r2 => r1.append (vals_idx r2 idx)⟩
section
variable {X : Cx} {k n : Nat} {x : Str} {ps ks : List Str} {sp : Sp} {idx : List Nat} {e : Expr} {es : List Expr} {kws : List Keyword} {t tk : TA} {p pos : Pos} {W : WX}
/-- called where nothing is raised -/
theorem pe_cX (O : OkX X.prog X.w X.K X.mg X.base k x ps sp) (hr : Room k X.A) (hg : Gl X x) (ha : PA X (e :: es) t)
    (hdb : (x == ("__debug__" : Str)) = false := by decide) (he : starEach (e :: es) X.env = (false, eval e X.env) :: starEach es X.env := by rfl) (hpl : (backTo pos (starEach es X.env)).any (·.1) = false := by rfl) :
    PE X (.Call (.Name x p) (e :: es) [] pos) (tCallO sp t) := by
  obtain ⟨f, fd, F, hm, hk, hb⟩ := O.ex
  refine ⟨fun pins s σ H Q I h => (pe_call (E := E0) F hr hg hm hk hb .nil passL ha hdb he hpl).run pins s σ H Q I ?_⟩
  have e1 : (fun (vs : List V) H1 => sp (vs ++ []) H1 Q E0) = fun vs H1 => sp vs H1 Q E0 := by
    funext vs H1
    rw [List.append_nil]
  show t σ H fun vs H1 => sp (vs ++ []) H1 Q E0
  rw [e1]
  exact h
/-- called in a try's body (or where what is raised goes on): W, the wish -/
theorem pe_cXS (O : OkX X.prog X.w X.K X.mg X.base k x ps sp) (hr : Room k X.A) (hg : Gl X x) (tkk : Takes X W) (ha : PA X (e :: es) t)
    (hdb : (x == ("__debug__" : Str)) = false := by decide) (he : starEach (e :: es) X.env = (false, eval e X.env) :: starEach es X.env := by rfl) (hpl : (backTo pos (starEach es X.env)).any (·.1) = false := by rfl) :
    PE X (.Call (.Name x p) (e :: es) [] pos) (tCallS sp (WE W) t) := by
  obtain ⟨f, fd, F, hm, hk, hb⟩ := O.ex
  exact pe_callS F hr hg hm hk hb (fun σ => passAt tkk σ) ha hdb he hpl
def tCallSK (n m : Nat) (sp : Sp) (idx : List Nat) (E : L2.St → XK) (t tk : TA) : TE := fun σ H Q => t σ H fun vs H1 => tk σ H1 fun zs H2 => vs.length = n ∧ zs.length = m ∧ sp (vs ++ idx.map fun i => zs.getD i .non) H2 Q (E σ)
theorem run_fnSK {pins : List (Addr × Obj)} {σ : L2.St} {H : Hp} {s : Shared} {Q : VK} {us ws : List Value} {vs zs : List V} {f : Addr} {fd : FuncData} {g : List Value → List Value → List Value} {gV : List V → List V → List V} (F : FnOk X.prog X.w X.K X.mg X.base (L2.CX X.prog X.w) k f fd ps sp) (hr : Room k X.A) (hb : KBn X.K fd ps n ks g gV) (tkk : Takes X W)
    (I : Inv X pins σ H s) (r : Vals vs us) (rz : Vals zs ws) (l1 : vs.length = n) (l2 : zs.length = ks.length) (h : sp (gV vs zs) H Q (WE W σ)) : wpAny (model X.prog X.w) X.A (call (.ref f) us (ks.zip ws)) (EP X pins σ Q) X.xe s := by
  have r2 := hb.rel r rz
  refine wpAny_call (codeAny_mono (F.run X.A X.stack s H ⟨us, ks.zip ws⟩ (g us ws) (gV vs zs) Q (WE W σ) hr I.env0 (hb.to s us ws I.kIn (r.length.symm.trans l1) (rz.length.symm.trans l2)) r2 h) fun r s' hq => ?_)
  cases r with
  | error e => exact passAt tkk σ pins H s e s' I hq
  | ok fl =>
    cases fl with
    | ret u => exact I.after hq
    | next => exact False.elim hq
    | brk => exact False.elim hq
    | cont => exact False.elim hq
theorem pe_cXSK0 {m : Nat} (O : OkXK X.prog X.w X.K X.mg X.base k x ps sp 0 ks idx) (hr : Room k X.A) (hg : Gl X x) (tkk : Takes X W) (hkw : PK X kws tk)
    (hall : (backToKw pos (keywordEach kws X.env)).all (·.1.isSome) = true := by rfl) (hks : (backToKw pos (keywordEach kws X.env)).filterMap (·.1) = ks := by rfl)
    (hdb : (x == ("__debug__" : Str)) = false := by decide) (hm : ks.length = m := by rfl) (hpl : ((backTo pos (starEach [] X.env)).any (·.1) || (backToKw pos (keywordEach kws X.env)).any (·.1.isNone)) = false := by rfl) :
    PE X (.Call (.Name x p) [] kws pos) (tCallSK 0 m sp idx (WE W) tNil tk) := by
  subst hm
  obtain ⟨f, fd, F, hmg, hk, hb⟩ := O.kbn
  refine ⟨fun pins s σ H Q I h => ?_⟩
  refine wpAny_Call_Name_kw (ld_glob I hg hmg ?_ hdb)
  refine PySem.W.callWith_KW0 (h₀ := X.base) I.ok.mod.kin hk hall ?_ hpl
  refine thn (hkw.run pos pins s σ H _ I h) fun ws s2 ⟨zs, H2, I2, rz, l1, l2, q2⟩ => ⟨I2.kIn, ?_⟩
  rw [hks]
  exact run_fnSK (us := []) F hr hb tkk I2 .nil rz l1 l2 q2
/-- try: body / except C as n: suite -/
def tTry (K : PySem.W.Frag) (C : Addr) (i : Nat) (tb : WX → TS) (ts : Addr → Value → Option Addr → TS) (Wo : WX) : TS := fun D σ H => tb (wAs K (.ref C) i ts Wo D) D σ H
end
end Bx
namespace Bx
open PySem L2
def isB (x : V) (H : Hp) (Q : Bool → Hp → Prop) : Prop := ∃ k, x = .bl k ∧ Q k H
section
variable {σ σ' : L2.St} {H : Hp} {Q : VK} {QB : Bool → Hp → Prop} {QA : List V → Hp → Prop} {QO : Option Int → Hp → Prop} {v w : V} {ta tb tc te : TE} {t u : TT} {tr : TA} {tl th : TO} {K : PySem.W.Frag} {n b c : L2.St → Hp → Prop} {r : VK} {k : Bool} {i j : Int} {A B : Prop} {p a : Addr} {xs ys : List V} {ts tu : TS}
theorem x_var {i : Nat} (h : σ[i]? = some (some v)) (q : Q v H) : tVar i σ H Q := ⟨v, h, q⟩
theorem x_c (q : Q v H) : tC v σ H Q := q
theorem x_op {f : R2} (q : ta σ H fun x H1 => tb σ H1 fun y H2 => f x y H2 Q) : tOp f ta tb σ H Q := q
theorem x_un {f : V → Hp → VK → Prop} (q : ta σ H fun x H1 => f x H1 Q) : tUn f ta σ H Q := q
theorem x_sub (q : Q (.int (i - j)) H) : rSub (.int i) (.int j) H Q := ⟨i, j, rfl, rfl, q⟩
theorem x_fdvA (h0 : j ≠ 0) {m : Nat} (hb : j.natAbs < 2 ^ m) (hm : m ≤ 9000) (q : Q (.int (i.fdiv j)) H) : rFdv (.int i) (.int j) H Q := ⟨i, j, rfl, rfl, ⟨h0, by
  have z := (Nat.log2_lt (n := j.natAbs) (k := m) (by omega)).mpr hb
  omega⟩, q⟩
theorem x_fdv (h : 0 < j ∧ j < 1073741824) (q : Q (.int (i / j)) H) : rFdv (.int i) (.int j) H Q := x_fdvA (m := 30) (by omega) (by show j.natAbs < 1073741824; omega) (by decide) (by rw [Int.fdiv_eq_ediv_of_nonneg i (by omega)]; exact q)
theorem x_mod (h : 0 < j) (q : Q (.int (i % j)) H) : rModI (.int i) (.int j) H Q := ⟨i, j, rfl, rfl, h, q⟩
theorem x_pow (h : 0 ≤ j ∧ j ≤ 1000000 ∧ i.natAbs < 2 ^ 64) (q : Q (.int (i ^ j.toNat)) H) : rPow (.int i) (.int j) H Q := ⟨i, j, rfl, rfl, h, q⟩
theorem x_lt (q : Q (.bl (decide (i < j))) H) : rLt (.int i) (.int j) H Q := ⟨i, j, rfl, rfl, q⟩
theorem x_le (q : Q (.bl (decide (i ≤ j))) H) : rLe (.int i) (.int j) H Q := ⟨i, j, rfl, rfl, q⟩
theorem x_gt (q : Q (.bl (decide (j < i))) H) : rGt (.int i) (.int j) H Q := ⟨i, j, rfl, rfl, q⟩
theorem x_ge (q : Q (.bl (decide (j ≤ i))) H) : rGe (.int i) (.int j) H Q := ⟨i, j, rfl, rfl, q⟩
theorem x_neg (q : Q (.int (-i)) H) : rNeg (.int i) H Q := ⟨i, rfl, q⟩
theorem x_isN (q : Q (.bl (decide (v = .non))) H) : rIsNon v .non H Q := ⟨rfl, q⟩
theorem x_notN (q : Q (.bl (!decide (v = .non))) H) : rNotNon v .non H Q := ⟨rfl, q⟩
theorem x_abs (q : Q (.int (if i < 0 then -i else i)) H) : rAbs [.int i] H Q := ⟨i, rfl, q⟩
theorem x_int1 (q : Q (.int i) H) : rIntO [.int i] H Q := .inl ⟨i, rfl, q⟩
theorem x_max2 (q : Q (.int (if j > i then j else i)) H) : rMx2 [.int i, .int j] H Q := ⟨i, j, rfl, q⟩
theorem x_min2 (q : Q (.int (if j < i then j else i)) H) : rMn2 [.int i, .int j] H Q := ⟨i, j, rfl, q⟩
theorem x_tupL (h : SqL K H p xs) (q : ∀ l, H l = none → Q (.ref l) (upd H l (.tup xs))) : rTupOf K [.ref p] H Q := ⟨p, xs, rfl, .inl ⟨h, q⟩⟩
theorem x_tupT (h : SqT K H p xs) (q : Q (.ref p) H) : rTupOf K [.ref p] H Q := ⟨p, xs, rfl, .inr ⟨h, q⟩⟩
theorem x_addI (q : Q (.int (i + j)) H) : rAddX K (.int i) (.int j) H Q := .inl ⟨i, j, rfl, rfl, q⟩
theorem x_mulI (h : CMul i j) (q : Q (.int (i * j)) H) : rMulX K (.int i) (.int j) H Q := .inl ⟨i, j, rfl, rfl, h.ok, q⟩
theorem x_addL {b : Addr} (h1 : H p = some (.lst xs)) (h2 : H b = some (.lst ys)) (h : xs.length + ys.length ≤ sizeLine) (q : ∀ a, H a = none → Q (.ref a) (upd H a (.lst (xs ++ ys)))) : rAddX K (.ref p) (.ref b) H Q := .inr (.inl ⟨p, b, xs, ys, rfl, rfl, h1, h2, h, q⟩)
theorem x_addT {b : Addr} (h1 : H p = some (.tup xs)) (h2 : H b = some (.tup ys)) (h : xs.length + ys.length ≤ sizeLine) (q0 : xs = [] → Q (.ref b) H) (q1 : xs ≠ [] → ys = [] → Q (.ref p) H) (q : ∀ a, H a = none → Q (.ref a) (upd H a (.tup (xs ++ ys)))) : rAddX K (.ref p) (.ref b) H Q :=
  .inr (.inr ⟨p, b, xs, ys, rfl, rfl, SqT.of h1, SqT.of h2, h, q0, q1, fun _ _ => q⟩)
theorem x_repT (h1 : H p = some (.tup xs)) (h0 : xs ≠ []) (h2 : 2 ≤ j) (h3 : j ≤ 1000) (h4 : xs.length ≤ 1000) (q : ∀ a, H a = none → Q (.ref a) (upd H a (.tup (List.replicate j.toNat xs).flatten))) : rMulX K (.ref p) (.int j) H Q :=
  .inr ⟨p, j, xs, rfl, rfl, SqT.of h1, h0, h2, h3, h4, q⟩
theorem x_eqI (q : Q (.bl (decide (i = j))) H) : rEqX K (.int i) (.int j) H Q := .inl ⟨rfl, by
  have e : decide (V.int i = V.int j) = decide (i = j) := by by_cases z : i = j <;> simp [z]
  rw [e]; exact q⟩
theorem x_neI (q : Q (.bl (!decide (i = j))) H) : rNeX K (.int i) (.int j) H Q := .inl ⟨rfl, by
  have e : decide (V.int i = V.int j) = decide (i = j) := by by_cases z : i = j <;> simp [z]
  rw [e]; exact q⟩
theorem x_eqV (h : scal v w = true) (q : Q (.bl (decide (v = w))) H) : rEqX K v w H Q := .inl ⟨h, q⟩
theorem x_ixL (h : H p = some (.lst xs)) (e : atI xs i = some v) (q : Q v H) : rIxX K (.ref p) (.int i) H Q := .inl ⟨p, xs, i, v, rfl, rfl, SqL.of h, e, q⟩
theorem x_ixT (h : H p = some (.tup xs)) (e : atI xs i = some v) (q : Q v H) : rIxX K (.ref p) (.int i) H Q := .inr ⟨p, xs, i, v, rfl, rfl, SqT.of h, e, q⟩
theorem x_sl {f : V → Option Int → Option Int → Hp → VK → Prop} (q : te σ H fun x H1 => tl σ H1 fun l H2 => th σ H2 fun u H3 => f x l u H3 Q) : tSl f te tl th σ H Q := q
theorem x_no (q : QO none H) : tNoPart σ H QO := q
theorem x_part (q : te σ H fun x H1 => ∃ i, x = .int i ∧ QO (some i) H1) : tPart te σ H QO := q
theorem x_slL {lo hi : Option Int} (h : SqL K H p xs) (q : ∀ a, H a = none → Q (.ref a) (upd H a (.lst (cutV xs lo hi)))) : rSlX K (.ref p) lo hi H Q := .inl ⟨p, xs, rfl, h, q⟩
theorem x_slT {lo hi : Option Int} (h : H p = some (.tup xs)) (q1 : HT.sIx xs.length 0 lo = 0 ∧ HT.sIx xs.length xs.length hi = xs.length → Q (.ref p) H) (q : ¬ (HT.sIx xs.length 0 lo = 0 ∧ HT.sIx xs.length xs.length hi = xs.length) → ∀ a, H a = none → Q (.ref a) (upd H a (.tup (cutV xs lo hi)))) : rSlX K (.ref p) lo hi H Q := .inr ⟨p, xs, rfl, SqT.of h, q1, q⟩
theorem x_test (q : te σ H fun x H1 => isB x H1 QB) : tTest te σ H QB := q
theorem x_tB (q : te σ H fun x H1 => isB x H1 QB) : tB te σ H QB := q
theorem x_isB (q : QB k H) : isB (.bl k) H QB := ⟨k, rfl, q⟩
theorem x_and (q : t σ H fun c H1 => if c = true then u σ H1 QB else QB false H1) : tAnd t u σ H QB := q
theorem x_or (q : t σ H fun c H1 => if c = true then QB true H1 else u σ H1 QB) : tOr t u σ H QB := q
theorem x_not (q : t σ H fun c H1 => QB (!c) H1) : tNot t σ H QB := q
theorem x_andV (q : ta σ H fun x H1 => isB x H1 fun c H2 => if c = true then tb σ H2 Q else Q (.bl false) H2) : tAndV ta tb σ H Q := q
theorem x_orV (q : ta σ H fun x H1 => isB x H1 fun c H2 => if c = true then Q (.bl true) H2 else tb σ H2 Q) : tOrV ta tb σ H Q := q
theorem x_notV (q : ta σ H fun x H1 => isB x H1 fun c H2 => Q (.bl (!c)) H2) : tNotV ta σ H Q := q
theorem x_chain {f g : R2} (q : ta σ H fun x H1 => tb σ H1 fun y H2 => f x y H2 fun z H3 => isB z H3 fun k H4 => if k = true then tc σ H4 fun w H5 => g y w H5 Q else Q (.bl false) H4) : tChain f g ta tb tc σ H Q := q
theorem x_ifE (q : t σ H fun c H1 => if c = true then ta σ H1 Q else tb σ H1 Q) : tIf t ta tb σ H Q := q
theorem x_iteT (h : A) : if true = true then A else B := by rw [if_pos rfl]; exact h
theorem x_iteF (h : B) : if false = true then A else B := by rw [if_neg Bool.false_ne_true]; exact h
theorem x_iteNT (h : B) : if (!true) = true then A else B := x_iteF h
theorem x_iteNF (h : A) : if (!false) = true then A else B := x_iteT h
theorem x_ite (h1 : k = true → A) (h2 : k = false → B) : if k = true then A else B := by
  cases k with
  | true => exact x_iteT (h1 rfl)
  | false => exact x_iteF (h2 rfl)
theorem x_dec {C : Prop} [Decidable C] (h1 : C → A) (h2 : ¬ C → B) : if decide C = true then A else B :=
  x_ite (fun e => h1 (of_decide_eq_true e)) (fun e => h2 (of_decide_eq_false e))
theorem x_ndec {C : Prop} [Decidable C] (h1 : ¬ C → A) (h2 : C → B) : if (!decide C) = true then A else B := by
  by_cases e : C
  · rw [decide_eq_true e]; exact x_iteNT (h2 e)
  · rw [decide_eq_false e]; exact x_iteNF (h1 e)
theorem x_nil (q : QA [] H) : tNil σ H QA := q
theorem x_cons (q : te σ H fun x H1 => tr σ H1 fun xs H2 => QA (x :: xs) H2) : tCons te tr σ H QA := q
def mkT (xs : List V) (H : Hp) (Q : VK) : Prop := xs.length ≤ sizeLine ∧ ∀ p, H p = none → Q (.ref p) (upd H p (.tup xs))
def mkL (xs : List V) (H : Hp) (Q : VK) : Prop := xs.length ≤ sizeLine ∧ ∀ p, H p = none → Q (.ref p) (upd H p (.lst xs))
theorem x_tup (q : tr σ H fun xs H1 => mkT xs H1 Q) : tTup tr σ H Q := q
theorem x_lst (q : tr σ H fun xs H1 => mkL xs H1 Q) : tLst tr σ H Q := q
theorem x_cb {f : List V → Hp → VK → Prop} (q : tr σ H fun vs H1 => f vs H1 Q) : tCB f tr σ H Q := q
theorem x_call {sp : Sp} (q : tr σ H fun vs H1 => sp vs H1 Q E0) : tCallO sp tr σ H Q := q
theorem x_callK {sp : Sp} {m n : Nat} {idx : List Nat} {tk : TA} (q : tr σ H fun vs H1 => tk σ H1 fun zs H2 => vs.length = n ∧ zs.length = m ∧ sp (vs ++ idx.map fun i => zs.getD i .non) H2 Q E0) : tCallOK n m sp idx tr tk σ H Q := q
theorem x_callS {sp : Sp} {E : L2.St → XK} (q : tr σ H fun vs H1 => sp vs H1 Q (E σ)) : tCallS sp E tr σ H Q := q
theorem x_callSK {sp : Sp} {m n : Nat} {idx : List Nat} {tk : TA} {E : L2.St → XK} (q : tr σ H fun vs H1 => tk σ H1 fun zs H2 => vs.length = n ∧ zs.length = m ∧ sp (vs ++ idx.map fun i => zs.getD i .non) H2 Q (E σ)) : tCallSK n m sp idx E tr tk σ H Q := q
theorem x_bm {T : String} {f : V → List V → Hp → VK → Prop} (q : te σ H fun x H1 => tyV K T x H1 ∧ tr σ H1 fun xs H2 => f x xs H2 Q) : tBM K T f te tr σ H Q := q
/-! statements -/
theorem x_seq (q : ts ⟨tu ⟨n, r, b, c⟩, r, b, c⟩ σ H) : tSeq ts tu ⟨n, r, b, c⟩ σ H := q
theorem x_cut (Mid : L2.St → Hp → Prop) (h : ts ⟨Mid, r, b, c⟩ σ H) (k : ∀ σ' H', Mid σ' H' → tu ⟨n, r, b, c⟩ σ' H') : tCut ts tu ⟨n, r, b, c⟩ σ H := ⟨Mid, h, k⟩
theorem x_next (q : n σ H) : tNext ⟨n, r, b, c⟩ σ H := q
theorem x_brk (q : b σ H) : tBreak ⟨n, r, b, c⟩ σ H := q
theorem x_cont (q : c σ H) : tCont ⟨n, r, b, c⟩ σ H := q
theorem x_drop (q : te σ H fun _ H1 => n σ H1) : tDrop te ⟨n, r, b, c⟩ σ H := q
theorem x_ret (q : te σ H r) : tRet te ⟨n, r, b, c⟩ σ H := q
theorem x_ifS (q : t σ H fun k H1 => if k = true then ts ⟨n, r, b, c⟩ σ H1 else tu ⟨n, r, b, c⟩ σ H1) : tIfS t ts tu ⟨n, r, b, c⟩ σ H := q
theorem x_asg {g : TG} (q : te σ H fun x H1 => g x σ H1 n) : tAsg te g ⟨n, r, b, c⟩ σ H := q
theorem x_gName {i : Nat} (q : n (σ.set i (some v)) H) : gName i v σ H n := q
theorem x_gSub {s : TSet} (q : ta σ H fun o H1 => tb σ H1 fun i H2 => s o i v H2 fun H3 => n σ H3) : gSub ta tb s v σ H n := q
theorem x_setL {m : Nat} {Qh : Hp → Prop} (h : H p = some (.lst xs)) (e : ixN xs.length i = some m) (q : Qh (upd H p (.lst (xs.set m v)))) : rSetL (.ref p) (.int i) v H Qh := ⟨p, xs, i, m, rfl, rfl, h, e, q⟩
theorem x_app (h : H p = some (.lst xs)) (hl : xs.length < sizeLine) (q : Q .non (upd H p (.lst (xs ++ [v])))) : rAppend (.ref p) [v] H Q := ⟨p, xs, v, rfl, rfl, h, hl, q⟩
theorem x_len {f : V → Hp → VK → Prop} : True := trivial
theorem x_gX {m : Nat} {g : TGs} (h : H p = some (.tup xs) ∨ H p = some (.lst xs)) (e : xs.length = m) (q : g xs σ H n) : gX K m g (.ref p) σ H n := h.elim (fun h => .inl ⟨p, xs, rfl, SqT.of h, e, q⟩) fun h => .inr ⟨p, xs, rfl, SqL.of h, e, q⟩
theorem x_gCons {g : TG} {gs : TGs} (q : g v σ H fun σ' H' => gs xs σ' H' n) : gCons g gs (v :: xs) σ H n := ⟨v, xs, rfl, q⟩
theorem x_gNil (q : n σ H) : gNil [] σ H n := ⟨rfl, q⟩
/-! loops -/
def rawR (m : Nat) (g : TG) (ts : TS) (D : Ends) (σ : L2.St) (H : Hp) : Prop := ∃ W : Nat → Nat → L2.St → Hp → Prop, (∃ m, W 0 m σ H) ∧ ∀ i k σ H, W i k σ H →
  ((Itr 0 m).stop i H ∧ D.nx σ H) ∨ ((Itr 0 m).go i H ∧ ∃ N : L2.St → Hp → Prop, (∀ σ' H', N σ' H' → ∃ m', m' < k ∧ W (i + 1) m' σ' H') ∧ ∀ x H', (Itr 0 m).yld i H x H' → g x σ H' fun σ2 H2 => ts { D with nx := N, ct := N, bk := D.nx } σ2 H2)
def rngK (vs : List V) (P : Nat → Prop) : Prop := ∃ j : Int, vs = [.int j] ∧ -(2 ^ 62) ≤ j ∧ j < 2 ^ 62 ∧ P j.toNat
theorem x_rng {z : Int} {P : Nat → Prop} (m : Nat) (hm : m ≤ 1000000000) (hz : z = (m : Int)) (q : P m) : rngK [.int z] P := by
  subst hz
  exact ⟨(m : Int), rfl, by omega, by omega, by rw [Int.toNat_natCast]; exact q⟩
theorem x_forR {g : TG} (q : tr σ H fun vs H1 => rngK vs fun m => rawR m g ts ⟨n, r, b, c⟩ σ H1) : tFor (iRng1 tr) g ts ⟨n, r, b, c⟩ σ H := q
theorem x_loopR {g : TG} {m : Nat} (Pv : Nat → L2.St → Hp → Prop) (h0 : Pv 0 σ H) (hs : ∀ i σ H, i < m → Pv i σ H → g (.int (i : Int)) σ H fun σ2 H2 => ts ⟨Pv (i + 1), r, n, Pv (i + 1)⟩ σ2 H2) (hd : ∀ σ H, Pv m σ H → n σ H) : rawR m g ts ⟨n, r, b, c⟩ σ H := by
  refine for_range (lo := 0) (n := m) (D := ⟨n, r, b, c⟩) Pv h0 (fun i σ H hi hp => ?_) hd
  rw [Int.zero_add]
  exact hs i σ H hi hp
def rawJ (J : It) (g : TG) (ts : TS) (D : Ends) (σ : L2.St) (H : Hp) : Prop := ∃ W : Nat → Nat → L2.St → Hp → Prop, (∃ m, W 0 m σ H) ∧ ∀ i k σ H, W i k σ H →
  (J.stop i H ∧ D.nx σ H) ∨ (J.go i H ∧ ∃ N : L2.St → Hp → Prop, (∀ σ' H', N σ' H' → ∃ m', m' < k ∧ W (i + 1) m' σ' H') ∧ ∀ x H', J.yld i H x H' → g x σ H' fun σ2 H2 => ts { D with nx := N, ct := N, bk := D.nx } σ2 H2)
theorem x_forX {g : TG} (q : te σ H fun x H1 => ∃ a, x = .ref a ∧ (((∃ xs, SqL K H1 a xs) ∧ rawJ (Itl K a) g ts ⟨n, r, b, c⟩ σ H1) ∨ ((∃ xs, SqT K H1 a xs) ∧ rawJ (Itt K a) g ts ⟨n, r, b, c⟩ σ H1))) : tFor (iX K te) g ts ⟨n, r, b, c⟩ σ H := q
theorem x_loopL {g : TG} (h : SqL K H a xs) (Pv : Nat → L2.St → Hp → Prop) (h0 : Pv 0 σ H) (hl : ∀ i σ H, i ≤ xs.length → Pv i σ H → SqL K H a xs) (hs : ∀ i x σ H, xs[i]? = some x → Pv i σ H → g x σ H fun σ2 H2 => ts ⟨Pv (i + 1), r, n, Pv (i + 1)⟩ σ2 H2) (hd : ∀ σ H, Pv xs.length σ H → n σ H) :
    ∃ a', V.ref a = .ref a' ∧ (((∃ xs, SqL K H a' xs) ∧ rawJ (Itl K a') g ts ⟨n, r, b, c⟩ σ H) ∨ ((∃ xs, SqT K H a' xs) ∧ rawJ (Itt K a') g ts ⟨n, r, b, c⟩ σ H)) :=
  ⟨a, rfl, .inl ⟨⟨xs, h⟩, for_list (D := ⟨n, r, b, c⟩) Pv h0 hl hs hd⟩⟩
theorem x_loopT {g : TG} (h : SqT K H a xs) (Pv : Nat → L2.St → Hp → Prop) (h0 : Pv 0 σ H) (hl : ∀ i σ H, i ≤ xs.length → Pv i σ H → SqT K H a xs) (hs : ∀ i x σ H, xs[i]? = some x → Pv i σ H → g x σ H fun σ2 H2 => ts ⟨Pv (i + 1), r, n, Pv (i + 1)⟩ σ2 H2) (hd : ∀ σ H, Pv xs.length σ H → n σ H) :
    ∃ a', V.ref a = .ref a' ∧ (((∃ xs, SqL K H a' xs) ∧ rawJ (Itl K a') g ts ⟨n, r, b, c⟩ σ H) ∨ ((∃ xs, SqT K H a' xs) ∧ rawJ (Itt K a') g ts ⟨n, r, b, c⟩ σ H)) :=
  ⟨a, rfl, .inr ⟨⟨xs, h⟩, for_tup (D := ⟨n, r, b, c⟩) Pv h0 hl hs hd⟩⟩
/-! comprehensions -/
def rawC (J : It) (g : TG) (tt : TT) (te : TE) (vs : List Nat) (σ : L2.St) (H1 : Hp) (Q : VK) : Prop := ∀ D, H1 D = none → ∃ W : Nat → Nat → Hp → Prop, (∃ m, W 0 m (upd H1 D (.lst []))) ∧ ∀ i m H, W i m H →
  (J.stop i H ∧ Q (.ref D) H) ∨ (J.go i H ∧ ∃ Nx : Hp → Prop, (∀ H', Nx H' → ∃ m', m' < m ∧ W (i + 1) m' H') ∧ ∀ x H', J.yld i H x H' → g x (wipe σ vs) H' fun σ2 H2 => wipe σ2 vs = wipe σ vs ∧ tt σ2 H2 fun b H3 =>
    if b = true then te σ2 H3 fun y H4 => ∃ acc, H4 D = some (.lst acc) ∧ acc.length < sizeLine ∧ Nx (upd H4 D (.lst (acc ++ [y]))) else Nx H3)
theorem x_lcX {g : TG} {tt : TT} {tx : TE} {vs : List Nat} (q : te σ H fun x H1 => ∃ a, x = .ref a ∧ (((∃ xs, SqL K H1 a xs) ∧ rawC (Itl K a) g tt tx vs σ H1 Q) ∨ ((∃ xs, SqT K H1 a xs) ∧ rawC (Itt K a) g tt tx vs σ H1 Q))) : tLc (iX K te) g tt tx vs σ H Q := q
theorem x_lcR {g : TG} {tt : TT} {tx : TE} {vs : List Nat} (q : tr σ H fun us H1 => rngK us fun m => rawC (Itr 0 m) g tt tx vs σ H1 Q) : tLc (iRng1 tr) g tt tx vs σ H Q := q
theorem x_lcL {g : TG} {tt : TT} {tx : TE} {vs : List Nat} (h : SqL K H a xs) (Pv : Addr → Nat → Hp → Prop) (h0 : ∀ D, H D = none → Pv D 0 (upd H D (.lst []))) (hl : ∀ D i H, i ≤ xs.length → Pv D i H → SqL K H a xs)
    (hs : ∀ D i x H, xs[i]? = some x → Pv D i H → g x (wipe σ vs) H fun σ2 H2 => wipe σ2 vs = wipe σ vs ∧ tt σ2 H2 fun b H3 =>
      if b = true then tx σ2 H3 fun y H4 => ∃ acc, H4 D = some (.lst acc) ∧ acc.length < sizeLine ∧ Pv D (i + 1) (upd H4 D (.lst (acc ++ [y]))) else Pv D (i + 1) H3) (hd : ∀ D H, Pv D xs.length H → Q (.ref D) H) :
    ∃ a', V.ref a = .ref a' ∧ (((∃ xs, SqL K H a' xs) ∧ rawC (Itl K a') g tt tx vs σ H Q) ∨ ((∃ xs, SqT K H a' xs) ∧ rawC (Itt K a') g tt tx vs σ H Q)) :=
  ⟨a, rfl, .inl ⟨⟨xs, h⟩, fun D hD => lc_list (Pv D) (h0 D hD) (hl D) (hs D) (hd D)⟩⟩
theorem x_lcT {g : TG} {tt : TT} {tx : TE} {vs : List Nat} (h : SqT K H a xs) (Pv : Addr → Nat → Hp → Prop) (h0 : ∀ D, H D = none → Pv D 0 (upd H D (.lst []))) (hl : ∀ D i H, i ≤ xs.length → Pv D i H → SqT K H a xs)
    (hs : ∀ D i x H, xs[i]? = some x → Pv D i H → g x (wipe σ vs) H fun σ2 H2 => wipe σ2 vs = wipe σ vs ∧ tt σ2 H2 fun b H3 =>
      if b = true then tx σ2 H3 fun y H4 => ∃ acc, H4 D = some (.lst acc) ∧ acc.length < sizeLine ∧ Pv D (i + 1) (upd H4 D (.lst (acc ++ [y]))) else Pv D (i + 1) H3) (hd : ∀ D H, Pv D xs.length H → Q (.ref D) H) :
    ∃ a', V.ref a = .ref a' ∧ (((∃ xs, SqL K H a' xs) ∧ rawC (Itl K a') g tt tx vs σ H Q) ∨ ((∃ xs, SqT K H a' xs) ∧ rawC (Itt K a') g tt tx vs σ H Q)) :=
  ⟨a, rfl, .inr ⟨⟨xs, h⟩, fun D hD => lc_tup (Pv D) (h0 D hD) (hl D) (hs D) (hd D)⟩⟩
theorem x_lcN {g : TG} {tt : TT} {tx : TE} {vs : List Nat} {m : Nat} (Pv : Addr → Nat → Hp → Prop) (h0 : ∀ D, H D = none → Pv D 0 (upd H D (.lst [])))
    (hs : ∀ D i H, i < m → Pv D i H → g (.int (i : Int)) (wipe σ vs) H fun σ2 H2 => wipe σ2 vs = wipe σ vs ∧ tt σ2 H2 fun b H3 =>
      if b = true then tx σ2 H3 fun y H4 => ∃ acc, H4 D = some (.lst acc) ∧ acc.length < sizeLine ∧ Pv D (i + 1) (upd H4 D (.lst (acc ++ [y]))) else Pv D (i + 1) H3) (hd : ∀ D H, Pv D m H → Q (.ref D) H) : rawC (Itr 0 m) g tt tx vs σ H Q := fun D hD =>
  lc_range (Pv D) (h0 D hD) (fun i H hi hp => by
    rw [Int.zero_add]
    exact hs D i H hi hp) (hd D)
theorem x_tYes (q : QB true H) : tYes σ H QB := q
end
end Bx
namespace Bx
open PySem L2
/-! ### heaps: all but ex stays -/
def Kp (ex : List Addr) (H H' : Hp) : Prop := ∀ a o, a ∉ ex → H a = some o → H' a = some o
def Live (ex : List Addr) (H : Hp) : Prop := ∀ a, a ∈ ex → ∃ o, H a = some o
section
variable {ex ex' : List Addr} {sp p a row : Addr} {H H1 H2 H' : Hp} {o u : HO} {K : PySem.W.Frag} {xs : List V} {v : V}
theorem upd_get (h : H p = none) (e : H a = some o) : upd H p u a = some o := by
  rw [upd_ne (ne_of_none e h)]; exact e
theorem upd_get' (h : a ≠ p) (e : H a = some o) : upd H p u a = some o := by
  rw [upd_ne h]; exact e
theorem new_ne (h : H p = none) (e : H a = some o) : p ≠ a := fun z => by rw [z, e] at h; cases h
theorem Live.new (L : Live ex H) (h : H p = none) : p ∉ ex := fun z => by
  obtain ⟨o, e⟩ := L p z
  rw [h] at e; cases e
theorem Live.same (L : Live ex H) (s : Same H H1) : Live ex H1 := fun a h => by
  obtain ⟨o, e⟩ := L a h
  exact ⟨o, s _ _ e⟩
theorem Live.cons (L : Live ex H) (h : H p = some o) : Live (p :: ex) H := fun a z => by
  rcases List.mem_cons.mp z with rfl | z
  · exact ⟨o, h⟩
  · exact L a z
theorem Live.upd (L : Live ex H) : Live ex (upd H p o) := fun a h => by
  by_cases z : a = p
  · subst z; exact ⟨o, upd_same⟩
  · obtain ⟨u, e⟩ := L a h
    exact ⟨u, upd_get' z e⟩
theorem Live.nil : Live [] H := fun a h => nomatch h
theorem Live.one (h : H p = some o) : Live [p] H := Live.nil.cons h
theorem Kp.refl : Kp ex H H := fun _ _ _ h => h
theorem Kp.trans (x : Kp ex H H1) (y : Kp ex H1 H2) : Kp ex H H2 := fun a o n h => y a o n (x a o n h)
theorem Kp.new (x : Kp ex H H1) (h : H1 p = none) : Kp ex H (upd H1 p o) := fun a u n e => by
  rw [upd_ne (ne_of_none (x a u n e) h)]; exact x a u n e
theorem Kp.mut (x : Kp ex H H1) (h : p ∈ ex) : Kp ex H (upd H1 p o) := fun a u n e => by
  rw [upd_ne (fun z => n (by rw [z]; exact h))]; exact x a u n e
theorem Kp.mono (x : Kp ex H H1) (h : ∀ a, a ∈ ex → a ∈ ex') : Kp ex' H H1 := fun a u n e => x a u (fun z => n (h a z)) e
theorem Kp.more (x : Kp ex H H1) : Kp (p :: ex) H H1 := x.mono fun _ h => List.mem_cons_of_mem _ h
theorem Kp.same (x : Kp ex H H1) (y : Same H1 H2) : Kp ex H H2 := fun a o n h => y a o (x a o n h)
theorem Same.kp (y : Same H H1) : Kp ex H H1 := fun a o _ h => y a o h
theorem Same.new (x : Same H H1) (h : H1 p = none) : Same H (upd H1 p o) := fun a u e => by
  rw [upd_ne (ne_of_none (x a u e) h)]; exact x a u e
/-- an object that H does not know may change -/
theorem Kp.own (x : Kp ex H H1) (h : H p = none) : Kp ex H (upd H1 p o) := fun a u n e => by
  rw [upd_ne (ne_of_none e h)]; exact x a u n e
theorem Same.own (x : Same H H1) (h : H p = none) : Same H (upd H1 p o) := fun a u e => by
  rw [upd_ne (ne_of_none e h)]; exact x a u e
theorem Same.none (x : Same H H1) (h : H1 p = Option.none) : H p = Option.none := by
  cases q : H p with
  | none => rfl
  | some o => rw [x p o q] at h; cases h
theorem Kp.none (x : Kp ex H H1) (n : p ∉ ex) (h : H1 p = Option.none) : H p = Option.none := by
  cases q : H p with
  | none => rfl
  | some o => rw [x p o n q] at h; cases h
/-! ### the draws -/
structure Wd (H : Hp) (row sp : Addr) : Prop where
  ex : ∃ (s : Int) (rs : List Int), 0 ≤ s ∧ H sp = some (.lst [.int s]) ∧ H row = some (.lst (rs.map V.int)) ∧ rs ≠ [] ∧ rs.length ≤ 4000
  ne : row ≠ sp
theorem Wd.new (W : Wd H row sp) (h : H p = none) : Wd (upd H p o) row sp := by
  obtain ⟨⟨s, rs, a, b, c, d⟩, e⟩ := W
  exact ⟨⟨s, rs, a, upd_get h b, upd_get h c, d⟩, e⟩
theorem Wd.same (W : Wd H row sp) (h : Same H H1) : Wd H1 row sp := by
  obtain ⟨⟨s, rs, a, b, c, d⟩, e⟩ := W
  exact ⟨⟨s, rs, a, h _ _ b, h _ _ c, d⟩, e⟩
theorem Wd.live (W : Wd H row sp) : Live [sp] H := by
  obtain ⟨⟨s, rs, a, b, c, d⟩, e⟩ := W
  exact Live.one b
theorem Wd.sp_ne (W : Wd H row sp) (h : H p = none) : p ≠ sp := by
  obtain ⟨⟨s, rs, a, b, c, d⟩, e⟩ := W
  exact new_ne h b
/-- an own object that is neither -/
theorem Wd.own (W : Wd H row sp) (h : p ≠ sp) (h2 : p ≠ row) : Wd (upd H p o) row sp := by
  obtain ⟨⟨s, rs, a, b, c, d⟩, e⟩ := W
  exact ⟨⟨s, rs, a, upd_get' (Ne.symm h) b, upd_get' (Ne.symm h2) c, d⟩, e⟩
theorem Wd.row_ne (W : Wd H row sp) (h : H p = none) : p ≠ row := by
  obtain ⟨⟨s, rs, a, b, c, d⟩, e⟩ := W
  exact new_ne h c
theorem not1 (h : p ≠ sp) : p ∉ [sp] := fun z => h (List.mem_singleton.mp z)
end
/-! ### data -/
inductive Da where
  | non | bl (b : Bool) | int (i : Int) | str (s : Str) | tup (l : List Da) | lst (l : List Da)
inductive Rp (ex : List Addr) (H : Hp) : V → Da → Prop where
  | non : Rp ex H .non .non
  | bl (b : Bool) : Rp ex H (.bl b) (.bl b)
  | int (i : Int) : Rp ex H (.int i) (.int i)
  | str (s : Str) : Rp ex H (.str s) (.str s)
  | tup {a : Addr} {xs : List V} {ds : List Da} (n : a ∉ ex) (e : H a = some (.tup xs)) (l : xs.length = ds.length) (h : ∀ (i : Nat) (x : V) (d : Da), xs[i]? = some x → ds[i]? = some d → Rp ex H x d) : Rp ex H (.ref a) (.tup ds)
  | lst {a : Addr} {xs : List V} {ds : List Da} (n : a ∉ ex) (e : H a = some (.lst xs)) (l : xs.length = ds.length) (h : ∀ (i : Nat) (x : V) (d : Da), xs[i]? = some x → ds[i]? = some d → Rp ex H x d) : Rp ex H (.ref a) (.lst ds)
section
variable {ex ex' : List Addr} {sp p a row : Addr} {H H1 H2 H' : Hp} {o u : HO} {K : PySem.W.Frag} {xs : List V} {v : V} {d : Da} {ds : List Da}
theorem Rp.kp (h : Rp ex H v d) (k : Kp ex H H1) : Rp ex H1 v d := by
  induction h with
  | non => exact .non
  | bl b => exact .bl b
  | int i => exact .int i
  | str s => exact .str s
  | tup n e l _ ih => exact .tup n (k _ _ n e) l ih
  | lst n e l _ ih => exact .lst n (k _ _ n e) l ih
theorem Rp.same (h : Rp ex H v d) (k : Same H H1) : Rp ex H1 v d := h.kp (Same.kp k)
theorem Rp.less (h : Rp ex H v d) (k : ∀ a, a ∈ ex' → a ∈ ex) : Rp ex' H v d := by
  induction h with
  | non => exact .non
  | bl b => exact .bl b
  | int i => exact .int i
  | str s => exact .str s
  | tup n e l _ ih => exact .tup (fun z => n (k _ z)) e l ih
  | lst n e l _ ih => exact .lst (fun z => n (k _ z)) e l ih
theorem Rp.tail (h : Rp (p :: ex) H v d) : Rp ex H v d := h.less fun _ z => List.mem_cons_of_mem _ z
/-- what H holds is not at p, which it does not know -/
theorem Rp.grow (h : Rp ex H v d) (k : H p = none) : Rp (p :: ex) H v d := by
  induction h with
  | non => exact .non
  | bl b => exact .bl b
  | int i => exact .int i
  | str s => exact .str s
  | tup n e l _ ih => exact .tup (fun z => (List.mem_cons.mp z).elim (fun z => new_ne k e z.symm) n) e l ih
  | lst n e l _ ih => exact .lst (fun z => (List.mem_cons.mp z).elim (fun z => new_ne k e z.symm) n) e l ih
/-- many values -/
def Rps (ex : List Addr) (H : Hp) (xs : List V) (ds : List Da) : Prop := xs.length = ds.length ∧ ∀ (i : Nat) (x : V) (d : Da), xs[i]? = some x → ds[i]? = some d → Rp ex H x d
theorem Rps.nil : Rps ex H [] [] := ⟨rfl, fun i x d h => by simp at h⟩
theorem Rps.cons (h : Rp ex H v d) (t : Rps ex H xs ds) : Rps ex H (v :: xs) (d :: ds) := ⟨by simp [t.1], fun i x e h1 h2 => by
  cases i with
  | zero => cases h1; cases h2; exact h
  | succ i => exact t.2 i x e h1 h2⟩
theorem rps_kp (h : Rps ex H xs ds) (k : Kp ex H H1) : Rps ex H1 xs ds := ⟨h.1, fun i x d a b => (h.2 i x d a b).kp k⟩
theorem rps_same (h : Rps ex H xs ds) (k : Same H H1) : Rps ex H1 xs ds := rps_kp h (Same.kp k)
theorem rps_tail (h : Rps (p :: ex) H xs ds) : Rps ex H xs ds := ⟨h.1, fun i x d a b => (h.2 i x d a b).tail⟩
theorem rps_less (h : Rps ex H xs ds) (k : ∀ a, a ∈ ex' → a ∈ ex) : Rps ex' H xs ds := ⟨h.1, fun i x d a b => (h.2 i x d a b).less k⟩
theorem rps_grow (h : Rps ex H xs ds) (k : H p = none) : Rps (p :: ex) H xs ds := ⟨h.1, fun i x d a b => (h.2 i x d a b).grow k⟩
theorem rps_append {ys : List V} {es : List Da} (t : Rps ex H xs ds) (s : Rps ex H ys es) : Rps ex H (xs ++ ys) (ds ++ es) := ⟨by simp [t.1, s.1], fun i x e h1 h2 => by
  by_cases q : i < xs.length
  · rw [List.getElem?_append_left q] at h1
    rw [List.getElem?_append_left (by rw [← t.1]; exact q)] at h2
    exact t.2 i x e h1 h2
  · have q' : xs.length ≤ i := by omega
    rw [List.getElem?_append_right q'] at h1
    rw [List.getElem?_append_right (by rw [← t.1]; exact q')] at h2
    rw [t.1] at h1
    exact s.2 _ x e h1 h2⟩
theorem rps_snoc (t : Rps ex H xs ds) (h : Rp ex H v d) : Rps ex H (xs ++ [v]) (ds ++ [d]) := rps_append t (.cons h .nil)
theorem rps_get (t : Rps ex H xs ds) {i : Nat} (h : ds[i]? = some d) : ∃ x, xs[i]? = some x ∧ Rp ex H x d := by
  have hi : i < xs.length := by rw [t.1]; exact (List.getElem?_eq_some_iff.mp h).1
  exact ⟨xs[i], List.getElem?_eq_getElem hi, t.2 i _ d (List.getElem?_eq_getElem hi) h⟩
theorem rps_at (t : Rps ex H xs ds) {i : Nat} {x : V} (h : xs[i]? = some x) : ∃ d, ds[i]? = some d ∧ Rp ex H x d := by
  have hi : i < ds.length := by rw [← t.1]; exact (List.getElem?_eq_some_iff.mp h).1
  exact ⟨ds[i], List.getElem?_eq_getElem hi, t.2 i _ _ h (List.getElem?_eq_getElem hi)⟩
theorem rps_tup (h : Rps ex H xs ds) (n : a ∉ ex) (e : H a = some (.tup xs)) : Rp ex H (.ref a) (.tup ds) := .tup n e h.1 h.2
theorem rps_lst (h : Rps ex H xs ds) (n : a ∉ ex) (e : H a = some (.lst xs)) : Rp ex H (.ref a) (.lst ds) := .lst n e h.1 h.2
theorem Rp.tupI (h : Rp ex H v (.tup ds)) : ∃ a xs, v = .ref a ∧ a ∉ ex ∧ H a = some (.tup xs) ∧ Rps ex H xs ds := by
  cases h with
  | tup n e l h => exact ⟨_, _, rfl, n, e, l, h⟩
theorem Rp.lstI (h : Rp ex H v (.lst ds)) : ∃ a xs, v = .ref a ∧ a ∉ ex ∧ H a = some (.lst xs) ∧ Rps ex H xs ds := by
  cases h with
  | lst n e l h => exact ⟨_, _, rfl, n, e, l, h⟩
theorem Rp.intI {i : Int} (h : Rp ex H v (.int i)) : v = .int i := by cases h; rfl
theorem Rp.strI {s : Str} (h : Rp ex H v (.str s)) : v = .str s := by cases h; rfl
theorem Rp.nonI (h : Rp ex H v .non) : v = .non := by cases h; rfl
theorem Rp.blI {b : Bool} (h : Rp ex H v (.bl b)) : v = .bl b := by cases h; rfl
/-- ints -/
theorem rps_ints (ns : List Int) : Rps ex H (ns.map V.int) (ns.map Da.int) := ⟨by simp, fun i x d h1 h2 => by
  rw [List.getElem?_map] at h1 h2
  cases z : ns[i]? with
  | none => rw [z] at h1; cases h1
  | some m => rw [z] at h1 h2; cases h1; cases h2; exact .int m⟩
/-! ### their types -/
def Da.ty : Da → String
  | .non => "NoneType" | .bl _ => "bool" | .int _ => "int" | .str _ => "str" | .tup _ => "tuple" | .lst _ => "list"
theorem Rp.tyx (h : Rp ex H v d) : TyX K H v (.type d.ty) := by
  cases h with
  | non => exact .base .non
  | bl b => exact .base (.bl b)
  | int i => exact .base (.int i)
  | str s => exact .base (.str s)
  | tup n e l h => exact .base (.tup e)
  | lst n e l h => exact .base (.lst e)
/-- isinstance(v, T) -/
def Da.isa (d : Da) (T : String) : Bool := match d with
  | .non => T == "NoneType" | .bl _ => T == "bool" || T == "int" | .int _ => T == "int" | .str _ => T == "str" | .tup _ => T == "tuple" | .lst _ => T == "list"
theorem Da.kit {T : String} (d : Da) (h : T ∈ ["bool", "int", "str", "tuple", "list"]) : PySem.W.kitOne K (.type d.ty) (.type T) = some (d.isa T) := by
  simp only [List.mem_cons, List.not_mem_nil, or_false] at h
  rcases h with rfl | rfl | rfl | rfl | rfl <;> cases d <;> (dsimp only [Da.ty, Da.isa]; exact kit_ty (by decide +kernel))
theorem x_isa {Q : VK} {T : String} (h : Rp ex H v d) (hT : T ∈ ["bool", "int", "str", "tuple", "list"]) (q : Q (.bl (d.isa T)) H) : rIsi K [v, .ty T] H Q :=
  ⟨v, .ty T, .type d.ty, .type T, d.isa T, rfl, .ty T, h.tyx, d.kit hT, q⟩
theorem x_isaB {Q : VK} {T : String} {b : Bool} (h : Rp ex H v d) (hT : T ∈ ["bool", "int", "str", "tuple", "list"]) (hb : d.isa T = b) (q : Q (.bl b) H) : rIsi K [v, .ty T] H Q := x_isa h hT (by rw [hb]; exact q)
theorem x_eqR {Q : VK} (h : scal v v = true) (q : Q (.bl true) H) : rEqX K v v H Q := .inl ⟨h, by rw [decide_eq_true rfl]; exact q⟩
theorem x_isLT {Q : VK} {t : Addr} (h : Rp ex H v d) (e : H t = some (.tup [.ty "list", .ty "tuple"])) (q : Q (.bl (d.isa "list" || d.isa "tuple")) H) : rIsiT K [v, .ref t] H Q := by
  refine ⟨v, t, [.ty "list", .ty "tuple"], .type d.ty, [.type "list", .type "tuple"], (d.isa "list" || d.isa "tuple"), rfl, e, .cons (.ty _) (.cons (.ty _) .nil), h.tyx, ?_, q⟩
  have h1 := d.kit (K := K) (T := "list") (by decide)
  have h2 := d.kit (K := K) (T := "tuple") (by decide)
  refine kitAny_cons h1 (fun e => ?_) (fun e => by rw [e]; rfl)
  refine kitAny_cons h2 (fun e2 => ?_) (fun e2 => by rw [e2, Bool.or_true])
  rw [e, e2]
  exact kitAny_nil
theorem x_lenR {Q : VK} (h : Rp ex H v d) (hd : d = .tup ds ∨ d = .lst ds) (q : Q (.int (ds.length : Int)) H) :
    rLen K [v] H Q := by
  rcases hd with rfl | rfl
  · obtain ⟨a, xs, rfl, n, e, r⟩ := h.tupI
    exact ⟨a, xs, rfl, .inr (SqT.of e), by rw [r.1]; exact q⟩
  · obtain ⟨a, xs, rfl, n, e, r⟩ := h.lstI
    exact ⟨a, xs, rfl, .inl (SqL.of e), by rw [r.1]; exact q⟩
theorem x_lenL {Q : VK} (h : H p = some (.lst xs)) (q : Q (.int (xs.length : Int)) H) :
    rLen K [.ref p] H Q := ⟨p, xs, rfl, .inl (SqL.of h), q⟩
theorem x_lenT {Q : VK} (h : H p = some (.tup xs)) (q : Q (.int (xs.length : Int)) H) :
    rLen K [.ref p] H Q := ⟨p, xs, rfl, .inr (SqT.of h), q⟩
end
/-! ### pure data of a depth; the same in lists -/
inductive Dn : Nat → Da → Prop where
  | non {n} : Dn (n + 1) .non
  | bl {n} (b : Bool) : Dn (n + 1) (.bl b)
  | int {n} (i : Int) : Dn (n + 1) (.int i)
  | str {n} (s : Str) : Dn (n + 1) (.str s)
  | tup {n} {l : List Da} (hl : l.length ≤ 1000) (h : ∀ d, d ∈ l → Dn n d) : Dn (n + 1) (.tup l)
theorem Dn.mono {n m : Nat} {d : Da} (h : Dn n d) : n ≤ m → Dn m d := by
  induction h generalizing m with
  | non => intro z; cases m with | zero => omega | succ m => exact .non
  | bl b => intro z; cases m with | zero => omega | succ m => exact .bl b
  | int i => intro z; cases m with | zero => omega | succ m => exact .int i
  | str s => intro z; cases m with | zero => omega | succ m => exact .str s
  | tup hl h ih => intro z; cases m with | zero => omega | succ m => exact .tup hl fun d hd => ih d hd (by omega)
mutual
def Da.listed : Da → Da
  | .tup l => .lst (listedL l)
  | d => d
def listedL : List Da → List Da
  | [] => []
  | d :: l => d.listed :: listedL l
end
theorem listedL_eq (l : List Da) : listedL l = l.map Da.listed := by
  induction l with
  | nil => rfl
  | cons d l ih => rw [listedL, List.map_cons, ih]
theorem listed_tup (l : List Da) : (Da.tup l).listed = .lst (l.map Da.listed) := by
  rw [Da.listed, listedL_eq]
end Bx
namespace Bx
open PySem L2
section
variable {H : Hp} {Q : VK} {i j : Int} {xs : List V} {m : Nat} {p : Addr} {K : PySem.W.Frag} {v : V} {P : Prop}
theorem sz {n : Nat} (h : n ≤ 100000) : n ≤ sizeLine := Nat.le_trans h (by decide)
theorem szl {n : Nat} (h : n < 100000) : n < sizeLine := Nat.lt_of_lt_of_le h (by decide)
theorem x_exI {P : Int → Prop} (q : P i) : ∃ j, V.int i = V.int j ∧ P j := ⟨i, rfl, q⟩
theorem x_mkt (hm : xs.length = m) (h : m ≤ 100000) (q : ∀ p, H p = none → Q (.ref p) (upd H p (.tup xs))) : mkT xs H Q := ⟨by rw [hm]; exact sz h, q⟩
theorem x_mkl (hm : xs.length = m) (h : m ≤ 100000) (q : ∀ p, H p = none → Q (.ref p) (upd H p (.lst xs))) : mkL xs H Q := ⟨by rw [hm]; exact sz h, q⟩
theorem x_bmL {f : Prop} (h : H p = some (.lst xs)) (q : f) : tyV K "list" (.ref p) H ∧ f := ⟨.inl ⟨rfl, xs, SqL.of h⟩, q⟩
theorem cmulL {i j : Int} (h1 : -(2 ^ 64) < i) (h2 : i < 2 ^ 64) : CMul i j := .inl ⟨h1, h2⟩
theorem cmulR {i j : Int} (h1 : -(2 ^ 64) < j) (h2 : j < 2 ^ 64) : CMul i j := .inr ⟨h1, h2⟩
theorem map_snoc (rs : List Int) (w : Int) : rs.map V.int ++ [V.int w] = (rs ++ [w]).map V.int := by simp
theorem x_start {N : List Str} {vs : List V} {t : TS} {D : Ends} {σ' : L2.St} (e : start N vs = σ') (h : t D σ' H) : t D (start N vs) H := e ▸ h
theorem ints_at {ns : List Int} {j : Nat} {z : Int} (h : ns[j]? = some z) : (ns.map V.int)[j]? = some (V.int z) := by rw [List.getElem?_map, h]; rfl
theorem x_lcS {σ : L2.St} {a : Addr} {g : TG} {tt : TT} {tx : TE} {vs : List Nat} (h : H a = some (.tup xs) ∨ H a = some (.lst xs)) (Pv : Addr → Nat → Hp → Prop) (h0 : ∀ D, H D = none → Pv D 0 (upd H D (.lst []))) (hl : ∀ D i H1, Pv D i H1 → Same H H1)
    (hs : ∀ D i x H, xs[i]? = some x → Pv D i H → g x (wipe σ vs) H fun σ2 H2 => wipe σ2 vs = wipe σ vs ∧ tt σ2 H2 fun b H3 =>
      if b = true then tx σ2 H3 fun y H4 => ∃ acc, H4 D = some (.lst acc) ∧ acc.length < sizeLine ∧ Pv D (i + 1) (upd H4 D (.lst (acc ++ [y]))) else Pv D (i + 1) H3) (hd : ∀ D H, Pv D xs.length H → Q (.ref D) H) :
    ∃ a', V.ref a = .ref a' ∧ (((∃ xs, SqL K H a' xs) ∧ rawC (Itl K a') g tt tx vs σ H Q) ∨ ((∃ xs, SqT K H a' xs) ∧ rawC (Itt K a') g tt tx vs σ H Q)) := by
  rcases h with h | h
  · exact x_lcT (SqT.of h) Pv h0 (fun D i H1 _ p => SqT.of (hl D i H1 p _ _ h)) hs hd
  · exact x_lcL (SqL.of h) Pv h0 (fun D i H1 _ p => SqL.of (hl D i H1 p _ _ h)) hs hd
theorem x_lenS {p : Addr} (h : H p = some (.tup xs) ∨ H p = some (.lst xs)) (q : Q (.int (xs.length : Int)) H) : rLen K [.ref p] H Q := h.elim (fun h => x_lenT h q) fun h => x_lenL h q
theorem x_ixS {p : Addr} {i : Int} (h : H p = some (.tup xs) ∨ H p = some (.lst xs)) (e : atI xs i = some v) (q : Q v H) : rIxX K (.ref p) (.int i) H Q := h.elim (fun h => x_ixT h e q) fun h => x_ixL h e q
/-- a sequence of data, a list or a tuple -/
def Da.seq (d : Da) (ds : List Da) : Prop := d = .tup ds ∨ d = .lst ds
theorem Rp.seqI {ex : List Addr} {d : Da} {ds : List Da} (h : Rp ex H v d) (e : d.seq ds) : ∃ a xs, v = .ref a ∧ a ∉ ex ∧ (H a = some (.tup xs) ∨ H a = some (.lst xs)) ∧ Rps ex H xs ds := by
  rcases e with rfl | rfl
  · obtain ⟨a, xs, e1, e2, e3, e4⟩ := h.tupI
    exact ⟨a, xs, e1, e2, .inl e3, e4⟩
  · obtain ⟨a, xs, e1, e2, e3, e4⟩ := h.lstI
    exact ⟨a, xs, e1, e2, .inr e3, e4⟩
theorem cut_from (xs : List V) (k : Nat) : cutV xs (some (k : Int)) none = xs.drop k := by
  unfold cutV
  rw [HT.sIx_nat, HT.sIx_none]
  by_cases h : k ≤ xs.length
  · rw [Nat.min_eq_left h, List.take_of_length_le (by rw [List.length_drop]; exact Nat.le_refl _)]
  · rw [Nat.min_eq_right (by omega), List.drop_eq_nil_of_le (Nat.le_refl _), List.drop_eq_nil_of_le (by omega), List.take_nil]
theorem cut_to (xs : List V) (k : Nat) : cutV xs none (some (k : Int)) = xs.take k := by
  unfold cutV
  rw [HT.sIx_nat, HT.sIx_none, List.drop_zero, Nat.sub_zero]
  by_cases h : k ≤ xs.length
  · rw [Nat.min_eq_left h]
  · rw [Nat.min_eq_right (by omega), List.take_of_length_le (Nat.le_refl _), List.take_of_length_le (by omega)]
section
variable {ex : List Addr} {d d' : Da} {ds es : List Da} {u : V} {z : Int}
theorem rps_take {n : Nat} (h : Rps ex H xs ds) : Rps ex H (xs.take n) (ds.take n) := ⟨by rw [List.length_take, List.length_take, h.1], fun i x d h1 h2 => by
  rw [List.getElem?_take] at h1 h2
  by_cases c : i < n
  · rw [if_pos c] at h1 h2; exact h.2 i x d h1 h2
  · rw [if_neg c] at h1; cases h1⟩
theorem rps_drop {n : Nat} (h : Rps ex H xs ds) : Rps ex H (xs.drop n) (ds.drop n) := ⟨by rw [List.length_drop, List.length_drop, h.1], fun i x d h1 h2 => by
  rw [List.getElem?_drop] at h1 h2
  exact h.2 _ x d h1 h2⟩
theorem x_mkT (r : Rps ex H xs ds) (L : Live ex H) (hl : ds.length ≤ 100000) (q : ∀ v' H', Same H H' → Rp ex H' v' (.tup ds) → Q v' H') : mkT xs H Q :=
  ⟨by rw [r.1]; exact sz hl, fun p hp => q _ _ (Same.new (Same.refl _) hp) (rps_tup (rps_same r (Same.new (Same.refl _) hp)) (L.new hp) upd_same)⟩
theorem x_mkL (r : Rps ex H xs ds) (L : Live ex H) (hl : ds.length ≤ 100000) (q : ∀ v' H', Same H H' → Rp ex H' v' (.lst ds) → Q v' H') : mkL xs H Q :=
  ⟨by rw [r.1]; exact sz hl, fun p hp => q _ _ (Same.new (Same.refl _) hp) (rps_lst (rps_same r (Same.new (Same.refl _) hp)) (L.new hp) upd_same)⟩
theorem x_slR {lo hi : Option Int} (h : Rp ex H v (.tup ds)) (L : Live ex H) (q : ∀ v' H' ds', Same H H' → Rp ex H' v' (.tup ds') → (∀ xs, Rps ex H xs ds → Rps ex H (cutV xs lo hi) ds' ) → Q v' H') (hd : ∃ ds', ∀ xs, Rps ex H xs ds → Rps ex H (cutV xs lo hi) ds') : rSlX K v lo hi H Q := by
  obtain ⟨ds', hc⟩ := hd
  obtain ⟨a, xs, rfl, n, e, r⟩ := h.tupI
  refine x_slT e (fun w => ?_) (fun _ p hp => q _ _ ds' (Same.new (Same.refl _) hp) (rps_tup (rps_same (hc xs r) (Same.new (Same.refl _) hp)) (L.new hp) upd_same) hc)
  have e2 : cutV xs lo hi = xs := by
    unfold cutV
    rw [w.1, w.2, List.drop_zero, Nat.sub_zero, List.take_length]
  have r2 := hc xs r
  rw [e2] at r2
  exact q _ _ ds' (Same.refl _) (rps_tup r2 n e) hc
theorem x_slFrom {k : Nat} (h : Rp ex H v (.tup ds)) (hz : z = (k : Int)) (L : Live ex H) (q : ∀ v' H', Same H H' → Rp ex H' v' (.tup (ds.drop k)) → Q v' H') : rSlX K v (some z) none H Q := by
  subst hz
  obtain ⟨a, xs, rfl, n, e, r⟩ := h.tupI
  have r2 : Rps ex H (cutV xs (some (k : Int)) none) (ds.drop k) := by rw [cut_from]; exact rps_drop r
  refine x_slT e (fun w => ?_) (fun _ p hp => q _ _ (Same.new (Same.refl _) hp) (rps_tup (rps_same r2 (Same.new (Same.refl _) hp)) (L.new hp) upd_same))
  have e2 : cutV xs (some (k : Int)) none = xs := by
    unfold cutV
    rw [w.1, w.2, List.drop_zero, Nat.sub_zero, List.take_length]
  rw [e2] at r2
  exact q _ _ (Same.refl _) (rps_tup r2 n e)
theorem x_slTo {k : Nat} (h : Rp ex H v (.tup ds)) (hz : z = (k : Int)) (L : Live ex H) (q : ∀ v' H', Same H H' → Rp ex H' v' (.tup (ds.take k)) → Q v' H') : rSlX K v none (some z) H Q := by
  subst hz
  obtain ⟨a, xs, rfl, n, e, r⟩ := h.tupI
  have r2 : Rps ex H (cutV xs none (some (k : Int))) (ds.take k) := by rw [cut_to]; exact rps_take r
  refine x_slT e (fun w => ?_) (fun _ p hp => q _ _ (Same.new (Same.refl _) hp) (rps_tup (rps_same r2 (Same.new (Same.refl _) hp)) (L.new hp) upd_same))
  have e2 : cutV xs none (some (k : Int)) = xs := by
    unfold cutV
    rw [w.1, w.2, List.drop_zero, Nat.sub_zero, List.take_length]
  rw [e2] at r2
  exact q _ _ (Same.refl _) (rps_tup r2 n e)
theorem x_addR (h1 : Rp ex H v (.tup ds)) (h2 : Rp ex H u (.tup es)) (hl : ds.length + es.length ≤ 100000) (L : Live ex H) (q : ∀ v' H', Same H H' → Rp ex H' v' (.tup (ds ++ es)) → Q v' H') : rAddX K v u H Q := by
  obtain ⟨a, xs, rfl, n1, e1, r1⟩ := id h1.tupI
  obtain ⟨b, ys, rfl, n2, e2, r2⟩ := id h2.tupI
  refine x_addT e1 e2 (by rw [r1.1, r2.1]; exact sz hl) (fun w => ?_) (fun _ w => ?_) (fun p hp => q _ _ (Same.new (Same.refl _) hp) (rps_tup (rps_same (rps_append r1 r2) (Same.new (Same.refl _) hp)) (L.new hp) upd_same))
  · subst w
    have e : ds = [] := List.length_eq_zero_iff.mp r1.1.symm
    subst e
    exact q _ _ (Same.refl _) h2
  · subst w
    have e : es = [] := List.length_eq_zero_iff.mp r2.1.symm
    subst e
    rw [List.append_nil] at q
    exact q _ _ (Same.refl _) h1
theorem x_addLR (h1 : Rp ex H v (.lst ds)) (h2 : Rp ex H u (.lst es)) (hl : ds.length + es.length ≤ 100000) (L : Live ex H) (q : ∀ v' H', Same H H' → Rp ex H' v' (.lst (ds ++ es)) → Q v' H') : rAddX K v u H Q := by
  obtain ⟨a, xs, rfl, n1, e1, r1⟩ := h1.lstI
  obtain ⟨b, ys, rfl, n2, e2, r2⟩ := h2.lstI
  exact x_addL e1 e2 (by rw [r1.1, r2.1]; exact sz hl) (fun p hp => q _ _ (Same.new (Same.refl _) hp) (rps_lst (rps_same (rps_append r1 r2) (Same.new (Same.refl _) hp)) (L.new hp) upd_same))
theorem rps_rep (r : Rps ex H xs ds) : ∀ k : Nat, Rps ex H (List.replicate k xs).flatten (List.replicate k ds).flatten
  | 0 => .nil
  | k + 1 => by
    rw [List.replicate_succ, List.replicate_succ, List.flatten_cons, List.flatten_cons]
    exact rps_append r (rps_rep r k)
theorem x_repR (h1 : Rp ex H v (.tup ds)) (h0 : ds ≠ []) (hl : ds.length ≤ 1000) (h2 : 2 ≤ z) (h3 : z ≤ 1000) (L : Live ex H) (q : ∀ v' H', Same H H' → Rp ex H' v' (.tup (List.replicate z.toNat ds).flatten) → Q v' H') : rMulX K v (.int z) H Q := by
  obtain ⟨a, xs, rfl, n1, e1, r1⟩ := h1.tupI
  exact x_repT e1 (fun w => h0 (List.length_eq_zero_iff.mp (by rw [← r1.1, w]; rfl))) h2 h3 (by rw [r1.1]; exact hl) fun p hp => q _ _ (Same.new (Same.refl _) hp) (rps_tup (rps_same (rps_rep r1 _) (Same.new (Same.refl _) hp)) (L.new hp) upd_same)
theorem x_ixR {i : Nat} (h : Rp ex H v d) (hs : d.seq ds) (e : ds[i]? = some d') (hz : z = (i : Int)) (q : ∀ x, Rp ex H x d' → Q x H) : rIxX K v (.int z) H Q := by
  subst hz
  obtain ⟨a, xs, rfl, n, e1, r⟩ := h.seqI hs
  obtain ⟨x, g, rx⟩ := rps_get r e
  exact x_ixS e1 (atI_nat g) (q x rx)
end
theorem get_ex {α : Type} {l : List α} {i n : Nat} (hn : l.length = n) (h : i < n) : ∃ d, l[i]? = some d := ⟨_, List.getElem?_eq_getElem (by rw [hn]; exact h)⟩
theorem x_try {C : Addr} {i : Nat} {tb : WX → TS} {ts : Addr → Value → Option Addr → TS} {Wo : WX} {σ : L2.St} {n b c : L2.St → Hp → Prop} {r : VK} (q : tb (wAs K (.ref C) i ts Wo ⟨n, r, b, c⟩) ⟨n, r, b, c⟩ σ H) : tTry K C i tb ts Wo ⟨n, r, b, c⟩ σ H := q
theorem x_allB {a : Addr} (bs : List Bool) (h : H a = some (.lst (bs.map V.bl))) (q : Q (.bl (bs.all id)) H) : rAll K [.ref a] H Q := ⟨a, bs, rfl, SqL.of h, q⟩
end
end Bx

namespace Bx
open PySem PySem.W PySem.Calls PyProof.Rows PySem.HandSPX
open Builtin Builtin.ObjectAttr
/-! ### own errors over Exception: the row of classes, the first field stored -/
abbrev exEnd : List Value := [.type "Exception", .type "BaseException", .type "object"]
/-- own classes, then Exception's own row -/
def exRow : List Value → Bool
  | .ref _ :: r => exRow r
  | l => l == exEnd
theorem exRow_two (l : List Value) (e : exRow l = true) : (∃ c r, l = .ref c :: r ∧ exRow r = true) ∨ l = exEnd := by
  match l, e with
  | .ref c :: r, e => exact .inl ⟨c, r, rfl, e⟩
  | [], e => exact .inr (beq_iff_eq.mp e)
  | .none :: _, e => exact .inr (beq_iff_eq.mp e)
  | .ellipsis :: _, e => exact .inr (beq_iff_eq.mp e)
  | .notImplemented :: _, e => exact .inr (beq_iff_eq.mp e)
  | .bool _ :: _, e => exact .inr (beq_iff_eq.mp e)
  | .int _ _ :: _, e => exact .inr (beq_iff_eq.mp e)
  | .float _ _ :: _, e => exact .inr (beq_iff_eq.mp e)
  | .str _ _ :: _, e => exact .inr (beq_iff_eq.mp e)
  | .bytes _ _ :: _, e => exact .inr (beq_iff_eq.mp e)
  | .type _ :: _, e => exact .inr (beq_iff_eq.mp e)
  | .builtin _ :: _, e => exact .inr (beq_iff_eq.mp e)
theorem exRow_loop (self : Value) (l : List Value) : exRow l = true → refuseLoop self "__setattr__" l = pure () := by
  induction l with
  | nil => exact fun e => absurd e (by decide)
  | cons a r ih =>
    intro e
    rcases exRow_two _ e with ⟨c, r', q, h⟩ | q
    · obtain ⟨rfl, rfl⟩ := List.cons.inj q
      exact (refuseLoop_ref ..).trans (ih h)
    · rw [q]; exact F.store_Exception.passes self
theorem exRow_has (X : String) (l : List Value) : exRow l = true → l.contains (.type X) = exEnd.contains (.type X) := by
  induction l with
  | nil => exact fun e => absurd e (by decide)
  | cons a r ih =>
    intro e
    rcases exRow_two _ e with ⟨c, r', q, h⟩ | q
    · obtain ⟨rfl, rfl⟩ := List.cons.inj q
      exact (List.contains_cons ..).trans ((by rw [ih h]; rfl))
    · rw [q]
theorem exRow_some {l : List Value} (e : exRow l = true) : l.isEmpty = false := by
  cases l with
  | nil => exact absurd e (by decide)
  | cons _ _ => rfl
theorem one_size (v : Value) : [v].length ≤ sizeLine := Nat.le_trans (show 1 ≤ 1000 by decide) (by decide)
theorem slot_ld {M : Model} {s : Shared} {name : Str} {scope : Scope} {L a : Addr} {cd : Value} {m : Str → Option Value} {x : Str} {pos : Pos} {v : Value} {Q : Value → Shared → Prop} {A : Around} {E : Value → Shared → Prop} (hn : s.heap.Ns L m) (hv : m x = some v) (h : Q v s)
    (hk : scope.kind = .function := by rfl) (hl : (envOfC name scope L a cd).kindOf x = some .local := by rfl) (hd : (x == ("__debug__" : Str)) = false := by decide) :
    wpAny M A (eval (.Name x pos) (envOfC name scope L a cd)) Q E s := wpAny_Name (wpAny_loadName_local hk hl hn hv h) hd
section
variable {prog : Program} {w : World} {A : Around} {R : Result → Shared → Prop} {hp : Heap} {g : Array GenState} {d : Drawn} {t : Nat} {os : OsState}
theorem first_store {K : W.Frag} {name : Str} {tk : Tok} {v : Value} {x C : Addr} {fv : Array Value} {cd : ClassData}
    (X : K.In hp) (hx : hp.get? x = some { cls := .ref C, data := .fields fv }) (hcd : W.clsIn K C = some cd) (hm : exRow cd.mro = true) (hh : cd.hasDict = true) (ha : W.findIn K (.ref C) name = some none)
    (hq : ∀ h' tk' dx, (∀ b o, b ≠ x → hp.get? b = some o → h'.get? b = some o) → hp.objs.size ≤ dx → dx ≠ x → h'.get? x = some { cls := .ref C, dict := some dx, data := .fields fv } →
      h'.Ns1 dx (fun y => if y = name then some v else none) → R (.ok (.ret .none)) ⟨h', g, d, tk', os⟩) :
    codeAny (model prog w) A (.call (.builtin "object.__setattr__") ⟨[.ref x, .str name tk, v], []⟩) R ⟨hp, g, d, t, os⟩ := by
  have I : W.InstAt hp x { cls := .ref C, data := .fields fv } C none := ⟨hx, rfl, rfl, trivial⟩
  have hob : cd.mro.contains (.type "object") = true := (exRow_has "object" _ hm).trans (by decide +kernel)
  have hxs : x ≠ hp.objs.size := Nat.ne_of_lt (Heap.lt_size hx)
  have sub : W.Looks (model prog w) hp (isInstance (.ref x) (.type "object")) true := I.type.andThen (W.looks_mroIn X (by unfold W.mroIn; rw [hcd, Option.bind_some, if_neg (by rw [exRow_some hm]; decide), hob]))
  refine codeAny_call_builtin F.store_object.slot.plain F.store_object.entry (@W.check_slot (model prog w) _ _ ⟨hp, g, d, t, os⟩ "object.__setattr__" "object" "__setattr__" (.ref x) [.str name tk, v] [] _ F.store_object.kind F.store_object.split sub (F.store_object.args (.ref x) (.str name tk) v) ?_)
  have hmr : W.Looks (model prog w) hp (mroOf (.ref C)) cd.mro := (W.looks_clsIn X hcd).andThen .now
  have hst : W.Looks (model prog w) hp (storeTaker? none) none := .now
  have hcls : W.Looks (model prog w) hp (classData C) cd := W.looks_clsIn X hcd
  rw [W.osa_eq, refuse_eq]
  refine wpAny_bind (wpAny_bind (I.type.at (wpAny_bind (hmr.at ?_))))
  rw [exRow_loop _ _ hm]
  refine wpAny_pure (wpAny_bind (I.type.at (wpAny_bind ((W.looks_findIn X ha).at (wpAny_bind (hst.at ?_))))))
  show wpAny _ _ (storeInOwnDict (.ref x) (.ref C) (.str name tk) name v false) _ _ _
  obtain ⟨nm, bs, mro, ns, qn, hd, sn, sb, ab, col, del⟩ := cd
  dsimp only at hh
  subst hh
  unfold storeInOwnDict ownDictForStores
  repeat (first | with_reducible refine store_in_new ?_ ?_ | with_reducible refine wpAny_loadPart_at hx ?_ | with_reducible refine hcls.at ?_ | wp_step)
  · exact ⟨_, #[], _, (Heap.get?_update_ne _ _ _ _ hxs.symm).trans (Heap.get?_push_at rfl rfl), rfl, fun e he => absurd he (by simp), fun _ => rfl⟩
  · intro h' tk' hn' hs
    have hx₁ : (hp.push { cls := .type "dict", data := .dict #[] }).get? x = some { cls := .ref C, data := .fields fv } := Heap.get?_push_of_some _ hx
    refine hq h' tk' hp.objs.size (fun b o hb ho => ?_) (Nat.le_refl _) hxs.symm ?_ hn'
    · exact (hs.2 b (Nat.ne_of_lt (Heap.lt_size ho))).trans ((Heap.get?_update_ne _ _ _ _ hb).trans (Heap.get?_push_of_some _ ho))
    · exact (hs.2 x hxs).trans (Heap.get?_update_self _ hx₁ rfl)
end
/-- an error of the class at S is what «except S» names -/
theorem names_self {K : Frag} {S : Addr} (h1 : subIn K (.ref S) (.type "BaseException") = some true) (h2 : isClsIn K S = true) (h3 : typeIn K (.ref S) = some (.type "type")) (h4 : subIn K (.ref S) (.ref S) = some true) :
    exmOne K (.ref S) (.ref S) = some true := by
  have e1 : (subIn K (.ref S) (.type "BaseException") == some true) = true := by rw [h1] <;> rfl
  have e2 : ((clsIn K S).isSome && typeIn K (.ref S) == some (.type "type")) = true := by
    have h2' : (clsIn K S).isSome = true := h2
    rw [h2', h3] <;> rfl
  show (if (subIn K (.ref S) (.type "BaseException") == some true) = true then (if ((clsIn K S).isSome && typeIn K (.ref S) == some (.type "type")) = true then subIn K (.ref S) (.ref S) else none) else none) = some true
  rw [if_pos e1, if_pos e2]
  exact h4
end Bx

namespace Bx
namespace Eat
open PySem PySem.W PySem.Calls PyProof.Rows PySem.HandSPX
/-- the text of __init__(self, at) -/
def iA (p1 p2 : Pos) : Arguments := { posonlyargs := [], args := [{ arg := "self", annotation := none, pos := p1 }, { arg := "at", annotation := none, pos := p2 }], vararg := none, kwonlyargs := [], kw_defaults := [], kwarg := none, defaults := [] }
def iB (q1 q2 q3 q4 : Pos) : List Stmt := [.Assign [.Attribute (.Name "self" q1) "at" q2] (.Name "at" q3) q4]
def iS : Scope := { kind := .function, names := [(PySem.Str.ofString "self", .local), (PySem.Str.ofString "at", .local)], isGenerator := false, isCoroutine := false, more := [] }
/-- what stands of the class (named x, at C) and of its __init__ (at fI) -/
structure Tx (K : Frag) (mg : Str → Option Value) (x q : Str) (C fI : Addr) : Prop where
  gC : mg x = some (.ref C)
  cls : ∃ nm q N bs bm sn sub ab col dd k0 k1 k2 k3 k5, K.lookup C = some (excClassObj nm q C N bs bm true sn sub ab col dd k0 k1 k2 k3 k5 "Exception.__new__") ∧ exRow bm = true
  sa : findIn K (.ref C) "__setattr__" = some (some (.builtin "object.__setattr__"))
  ga : findIn K (.ref C) "__getattribute__" = some (some (.builtin "BaseException.__getattribute__"))
  gg : findIn K (.ref C) "__getattr__" = some none
  noN : findIn K (.ref C) "at" = some none
  iC : findIn K (.ref C) "__init__" = some (some (.ref fI))
  tC : typeIn K (.ref fI) = some (.type "function")
  kC : keepIn K (.ref C) = true
  exC : subIn K (.ref C) (.type "BaseException") = some true
  tyC : typeIn K (.ref C) = some (.type "type")
  hdC : hasDictIn K C = true
  te : exmOne K (.ref C) (.ref C) = some true
  fn : ∃ (oc : Value) (od : Option Addr) (doc pm : Value) (an : Option Addr) (cdv ct : Value) (osl : Array (Option Value)) (p1 p2 q1 q2 q3 q4 : Pos),
    K.lookup fI = some ⟨oc, od, .func (fnOf "__init__" q (iA p1 p2) (iB q1 q2 q3 q4) iS .none .none doc pm an cdv ct), osl⟩ ∧ codeIn K cdv q = true
structure InitEnd (h h' : Heap) (x C dx t1 : Addr) (v : Value) : Prop where
  keep : ∀ b o, b ≠ x → h.get? b = some o → h'.get? b = some o
  obj : h'.get? x = some { cls := .ref C, dict := some dx, data := .fields #[.ref t1, .none, .none, .none, .bool false, .none] }
  dbig : h.objs.size ≤ dx
  dne : dx ≠ x
  ns : h'.Ns1 dx (fun y => if y = "at" then some v else none)
structure Made (h h' : Heap) (e C d : Addr) (v : Value) : Prop where
  keep : ∀ b o, h.get? b = some o → h'.get? b = some o
  new : h.objs.size ≤ e
  obj : ∃ oe vs, h'.get? e = some oe ∧ oe.cls = .ref C ∧ oe.dict = some d ∧ oe.data = .fields vs ∧ vs[1]? = some .none
  dbig : h.objs.size ≤ d
  dne : d ≠ e
  ns : h'.Ns1 d (fun y => if y = "at" then some v else none)
section
variable {prog : Program} {w : World} {A : Around} {E : Value → Shared → Prop} {R : Result → Shared → Prop} {s : Shared} {K : Frag} {mg : Str → Option Value} {x0 q0 : Str} {C fI : Addr}
theorem init_run (T : Tx K mg x0 q0 C fI) {x t0 : Addr} {v : Value} (X : K.In s.heap) (hlim : s.heap.NoLimit) (hx : s.heap.get? x = some (excO C t0)) (hnx : K.lookup x = none) (hroom : A.depth < recursionLimit)
    (hq : ∀ h' tk dx, InitEnd s.heap h' x C dx t0 v → R (.ok (.ret .none)) { s with heap := h', toks := tk }) :
    codeAny (model prog w) A (.call (.ref fI) ⟨[.ref x, v], []⟩) R s := by
  obtain ⟨oc, od, doc, pm, an, cdv, ct, osl, p1, p2, q1, q2, q3, q4, ho, hcd⟩ := T.fn
  obtain ⟨nm, q, N, bs, bm, sn, sub, ab, col, dd, k0, k1, k2, k3, k5, hC, hbm⟩ := T.cls
  have hcl : clsIn K C = some { name := nm, bases := bs, mro := .ref C :: bm, ns := N, qualname := q, hasDict := true, slotNames := sn, subclasses := sub, abstract := ab, collection := col, hasDel := false } := by unfold clsIn; rw [hC] <;> rfl
  refine Att.call_fn (binds := [("self", .ref x), ("at", v)]) X hlim ho hcd hroom (BindsTo.of_eq (by first | rfl | with_unfolding_all rfl)) (by first | rfl | decide | with_unfolding_all rfl) (fun s₁ IC => ?_) rfl rfl rfl
  obtain ⟨h₁, tk₁, rfl⟩ := IC.toInCall.same
  have k : ∀ b o, s.heap.get? b = some o → h₁.get? b = some o := IC.toInCall.keep
  have hn := IC.toInCall.ns
  have hxL : s.heap.objs.size ≠ x := Nat.ne_of_gt (Heap.lt_size hx)
  have X₁ : K.In h₁ := X.keeps k
  have hx₁ := k _ _ hx
  show wpAny _ _ (execs _ _) _ _ _
  refine wpAny_execs_cons (plainObj_wpAny_Assign_Attribute ?_)
  refine slot_ld (v := v) hn (by first | rfl | with_unfolding_all rfl | kernel_rfl) (slot_ld (v := .ref x) hn (by first | rfl | with_unfolding_all rfl | kernel_rfl) ?_)
  refine set_plain X₁ (ox := excO C t0) (od := none) ⟨hx₁, rfl, rfl, trivial⟩ T.sa ?_
  refine first_store X₁ hx₁ hcl (show exRow (.ref C :: bm) = true from hbm) rfl T.noN (fun h₃ tk₃ dx k₃ dn dne hx₃ hn₃ => ?_)
  show wpAny _ _ (execs _ _) _ _ _
  have z : s.heap.objs.size < h₁.objs.size := hn.lt
  exact wpAny_execs_nil (hq h₃ tk₃ dx ⟨fun b o hb e => k₃ b o hb (k b o e), hx₃, Nat.le_of_lt (Nat.lt_of_lt_of_le z dn), dne, hn₃⟩)
theorem made_run (T : Tx K mg x0 q0 C fI) {v : Value} (X : K.In s.heap) (hlim : s.heap.NoLimit) (hroom : A.depth + 1 < recursionLimit)
    (hq : ∀ h' tk e d, Made s.heap h' e C d v → R (.ok (.ret (.ref e))) { s with heap := h', toks := tk }) :
    codeAny (model prog w) A (.call (.ref C) ⟨[v], []⟩) R s := by
  obtain ⟨nm, q, N, bs, bm, sn, sub, ab, col, dd, k0, k1, k2, k3, k5, hC, hbm⟩ := T.cls
  obtain ⟨hp, g, dr, tk, os⟩ := s
  have k : ∀ b o, hp.get? b = some o → ((hp.push (kdv_tup [v])).push (excO C hp.objs.size)).get? b = some o := fun b o e => Heap.get?_push_of_some _ (Heap.get?_push_of_some _ e)
  have hget : ((hp.push (kdv_tup [v])).push (excO C hp.objs.size)).get? (hp.objs.size + 1) = some (excO C hp.objs.size) := by heap_get
  have hnx : K.lookup (hp.objs.size + 1) = none := by
    cases e : K.lookup (hp.objs.size + 1) with
    | none => rfl
    | some o =>
      have z : hp.get? (hp.objs.size + 1) = some o := X _ _ e
      exact absurd (Nat.lt_of_succ_lt (Heap.lt_size z)) (Nat.lt_irrefl _)
  refine call_own F.excBase_Exception (fun X => exRow_has X bm hbm) (X _ _ hC) (looks_findIn X T.iC) (fun self => bind_fn X self T.tC) (one_size v) ?_
  refine init_run (s := ⟨(hp.push (kdv_tup [v])).push (excO C hp.objs.size), g, dr, tk, os⟩) T (X.keeps k) (hlim.keeps k) hget hnx ?_ fun h' tk' dx ⟨k', hx, dn, dne, hns⟩ => ?_
  · show A.depth + 1 < recursionLimit
    exact hroom
  · have old : ∀ b o, hp.get? b = some o → h'.get? b = some o := fun b o e => k' b o (Nat.ne_of_lt (Nat.lt_succ_of_lt (Heap.lt_size e))) (k b o e)
    have z : hp.objs.size + 1 + 1 ≤ dx := by
      first
        | (simpa only [Heap.size_push] using dn)
        | exact dn
        | (have q := dn; rw [Heap.size_push, Heap.size_push] at q; exact q)
    exact ⟨rfl, hq h' tk' (hp.objs.size + 1) dx ⟨old, Nat.le_succ _, ⟨_, _, hx, rfl, rfl, rfl, rfl⟩, Nat.le_trans (Nat.le_trans (Nat.le_succ _) (Nat.le_succ _)) z, dne, hns⟩⟩
end
end Eat
end Bx
namespace Bx
namespace Eat
open PySem PySem.Spec PyProof.Rows L2
theorem rel_at {v : V} {v' : Value} (r : RelV v v') (f : Str) : RelO (List.lookup f [(("at" : Str), v)]) (if f = "at" then some v' else none) := by
  by_cases hw : f = "at"
  · subst hw
    rw [if_pos rfl]
    have q : List.lookup ("at" : Str) [(("at" : Str), v)] = some v := by simp [List.lookup]
    rw [q]
    exact r
  · rw [if_neg hw]
    have qw : (f == ("at" : Str)) = false := by simpa using hw
    have q2 : List.lookup f [(("at" : Str), v)] = none := by simp [List.lookup, qw]
    rw [q2]
    trivial
section
variable {X : Cx} {C fI : Addr} {x0 q0 : Str}
/-- x0(e), an error with the field -/
def tMk (C : Addr) (ta : TA) : L2.St → Hp → XK → Prop := fun σ H Q => ta σ H fun vs H1 => ∃ v, vs = [v] ∧ ∀ d, H1 d = none → Q (.ref C) (some d) (upd H1 d (.xd [(("at" : Str), v)]))
theorem pmk {a : Expr} {ta : TA} {p pos : Pos} {k : Nat} (T : Tx X.K X.mg x0 q0 C fI) (hr : Room k X.A) (ha : PA X [a] ta) (hg : Gl X x0) (hdb : (x0 == ("__debug__" : Str)) = false := by decide)
    (he : starEach (a :: []) X.env = (false, eval a X.env) :: starEach [] X.env := by rfl) (hpl : (backTo pos (starEach [] X.env)).any (·.1) = false := by rfl) :
    PMk X (.Call (.Name x0 p) [a] [] pos) (tMk C ta) := by
  intro pins s σ H Q I h
  refine wpAny_Call_Name_kw (ld_glob I hg T.gC ?_ hdb)
  refine PySem.W.callWith_K (h₀ := X.base) I.ok.mod.kin T.kC (thn (ha.run pos pins s σ H _ I h) fun us s1 hh => ?_) he hpl
  obtain ⟨vs, H1, I1, r1, v, ev, q1⟩ := hh
  subst ev
  refine ⟨I1.kIn, ?_⟩
  cases r1 with
  | cons rv rn =>
    rename_i v' us'
    cases rn
    show wpAny _ _ (call (.ref C) [v']) _ _ _
    have hlim := I1.nolimit
    obtain ⟨hp, g, dr, tk, os⟩ := s1
    refine wpAny_call (made_run T I1.kIn hlim (by have := hr.dp; omega) fun h' tk' e d M => ?_)
    show MkP X pins σ Q (.ref e) ⟨h', g, dr, tk', os⟩
    obtain ⟨oe, fv, hoe, hc, hd, hdat, h1⟩ := M.obj
    have hns := M.ns
    obtain ⟨G', g1, g2⟩ := restrict h' fun b => decide (b ≠ e)
    have gk : ∀ b, b ≠ e → G'.get? b = h'.get? b := fun b hb => g1 b (decide_eq_true hb)
    have ge : G'.get? e = none := g2 e (by simp)
    have old : ∀ b o, hp.get? b = some o → G'.get? b = some o := fun b o q => (gk b (Nat.ne_of_lt (Nat.lt_of_lt_of_le (Heap.lt_size q) M.new))).trans (M.keep b o q)
    have ob : ObjOk X.prog X.w (upd H1 d (.xd [(("at" : Str), v)])) G' d (.xd [(("at" : Str), v)]) :=
      ⟨_, hns.at (fun o q => (gk d M.dne).trans q), fun f => rel_at rv f⟩
    have J : Inv X pins σ (upd H1 d (.xd [(("at" : Str), v)])) ⟨G', g, dr, tk', os⟩ := I1.laid (t' := tk') old M.dbig ob
    refine ⟨e, oe, fv, ⟨G', g, dr, tk', os⟩, _, .ref C, some d, rfl, J, fun b o q => ?_, ge, hoe, ⟨hc, hd⟩, hdat, h1, ?_, rfl, I1.bare, raises_own T.exC T.tyC, q1 d (I1.hok.fresh M.dbig)⟩
    · by_cases hb : b = e
      · have q' : G'.get? b = some o := q
        rw [hb, ge] at q'; cases q'
      · exact (gk b hb).symm.trans q
    · rw [upd_ne (Ne.symm M.dne)]
      exact I1.hok.fresh M.new
/-- raise x0(e) -/
def tRaise (C : Addr) (W : WX) (ta : TA) : TS := fun _ σ H => tMk C ta σ H fun cls d H' => W cls d σ H'
theorem ps {a : Expr} {ta : TA} {W : WX} {p pos pos2 : Pos} {k : Nat} (hc : X.calm = true) (T : Tx X.K X.mg x0 q0 C fI) (hr : Room k X.A) (tk : Takes X W) (ha : PA X [a] ta) (hg : Gl X x0) (hdb : (x0 == ("__debug__" : Str)) = false := by decide)
    (he : starEach (a :: []) X.env = (false, eval a X.env) :: starEach [] X.env := by rfl) (hpl : (backTo pos (starEach [] X.env)).any (·.1) = false := by rfl) :
    PS X (.Raise (some (.Call (.Name x0 p) [a] [] pos)) none pos2) (tRaise C W ta) := ps_raise hc tk (pmk T hr ha hg hdb he hpl)
theorem x_raise {W : WX} {ta : TA} {σ : L2.St} {H : Hp} {n b c : L2.St → Hp → Prop} {r : VK} (q : ta σ H fun vs H1 => ∃ v, vs = [v] ∧ ∀ d, H1 d = none → W (.ref C) (some d) σ (upd H1 d (.xd [(("at" : Str), v)]))) : tRaise C W ta ⟨n, r, b, c⟩ σ H := q
/-- n.at, n the error that the suite holds (at a; its class cls, its dict d) -/
def tBy (C : Addr) (a : Addr) (cls : Value) (d : Option Addr) (te : TE) : TE := fun σ H Q => te σ H fun x H1 => x = .ref a ∧ cls = .ref C ∧ ∃ (dd : Addr) (v : V), d = some dd ∧ H1 dd = some (.xd [(("at" : Str), v)]) ∧ Q v H1
theorem x_by {a dd : Addr} {te : TE} {σ : L2.St} {H : Hp} {Q : VK} {v : V} (q : te σ H fun x H1 => x = .ref a ∧ H1 dd = some (.xd [(("at" : Str), v)]) ∧ Q v H1) (m : ∀ Q Q' : VK, (∀ v H, Q v H → Q' v H) → te σ H Q → te σ H Q') : tBy C a (.ref C) (some dd) te σ H Q :=
  m _ _ (fun _ _ z => ⟨z.1, rfl, dd, v, rfl, z.2.1, z.2.2⟩) q
theorem pe_by {a : Addr} {oe : Obj} {cls : Value} {d : Option Addr} {pn : List (Addr × Obj)} {e : Expr} {te : TE} {pos : Pos} (T : Tx X.K X.mg x0 q0 C fI) (hz : Zc cls d oe) (hf : ∃ vs, oe.data = .fields vs) (he : PE (X.suite a ((a, oe) :: pn)) e te)
    (hb : attributeBase e "at" X.env (eval e X.env) = eval e X.env := by rfl) :
    PE (X.suite a ((a, oe) :: pn)) (.Attribute e "at" pos) (tBy C a cls d te) := by
  refine ⟨fun pins s σ H Q I h => ?_⟩
  refine attr_of hb (thn (he.run pins s σ H _ I h) fun u s1 hh => ?_)
  obtain ⟨x, H1, I1, rx, ex, ec, dd, v, ed, ea, q⟩ := hh
  subst ex
  obtain rfl : u = Value.ref a := rx
  subst ec
  subst ed
  obtain ⟨ha, _⟩ := I1.pin (a, oe) (List.mem_append_left _ List.mem_cons_self)
  obtain ⟨vs, hd⟩ := hf
  have hx : ObjOk X.prog X.w H1 s1.heap dd (.xd [(("at" : Str), v)]) := I1.hok dd _ ea
  obtain ⟨mA, hns, hr⟩ := hx
  obtain ⟨od, ho, hl⟩ := lookIn_ns hns
  have l : List.lookup ("at" : Str) [(("at" : Str), v)] = some v := by simp [List.lookup]
  obtain ⟨u, hu, ru⟩ := RelO.some_of (v := v) (o := mA "at") (by rw [← l]; exact hr "at")
  have J : PySem.W.InstAt s1.heap a oe C (some od) := ⟨ha, hz.1, by unfold PySem.W.notCls; rw [hd] <;> rfl, by rw [hz.2]; exact ho⟩
  exact HandSPX.exc_get I1.kIn J T.ga T.gg T.exC (PySem.W.findObj_own T.hdC T.noN rfl (by rw [hl, hu])) (handed_of ru) ⟨v, H1, I1.tok _, ru, q⟩
end
end Eat
end Bx

namespace Bx
namespace Ekey
open PySem PySem.W PySem.Calls PyProof.Rows PySem.HandSPX
/-- the text of __init__(self, key) -/
def iA (p1 p2 : Pos) : Arguments := { posonlyargs := [], args := [{ arg := "self", annotation := none, pos := p1 }, { arg := "key", annotation := none, pos := p2 }], vararg := none, kwonlyargs := [], kw_defaults := [], kwarg := none, defaults := [] }
def iB (q1 q2 q3 q4 : Pos) : List Stmt := [.Assign [.Attribute (.Name "self" q1) "key" q2] (.Name "key" q3) q4]
def iS : Scope := { kind := .function, names := [(PySem.Str.ofString "self", .local), (PySem.Str.ofString "key", .local)], isGenerator := false, isCoroutine := false, more := [] }
/-- what stands of the class (named x, at C) and of its __init__ (at fI) -/
structure Tx (K : Frag) (mg : Str → Option Value) (x q : Str) (C fI : Addr) : Prop where
  gC : mg x = some (.ref C)
  cls : ∃ nm q N bs bm sn sub ab col dd k0 k1 k2 k3 k5, K.lookup C = some (excClassObj nm q C N bs bm true sn sub ab col dd k0 k1 k2 k3 k5 "Exception.__new__") ∧ exRow bm = true
  sa : findIn K (.ref C) "__setattr__" = some (some (.builtin "object.__setattr__"))
  ga : findIn K (.ref C) "__getattribute__" = some (some (.builtin "BaseException.__getattribute__"))
  gg : findIn K (.ref C) "__getattr__" = some none
  noN : findIn K (.ref C) "key" = some none
  iC : findIn K (.ref C) "__init__" = some (some (.ref fI))
  tC : typeIn K (.ref fI) = some (.type "function")
  kC : keepIn K (.ref C) = true
  exC : subIn K (.ref C) (.type "BaseException") = some true
  tyC : typeIn K (.ref C) = some (.type "type")
  hdC : hasDictIn K C = true
  te : exmOne K (.ref C) (.ref C) = some true
  fn : ∃ (oc : Value) (od : Option Addr) (doc pm : Value) (an : Option Addr) (cdv ct : Value) (osl : Array (Option Value)) (p1 p2 q1 q2 q3 q4 : Pos),
    K.lookup fI = some ⟨oc, od, .func (fnOf "__init__" q (iA p1 p2) (iB q1 q2 q3 q4) iS .none .none doc pm an cdv ct), osl⟩ ∧ codeIn K cdv q = true
structure InitEnd (h h' : Heap) (x C dx t1 : Addr) (v : Value) : Prop where
  keep : ∀ b o, b ≠ x → h.get? b = some o → h'.get? b = some o
  obj : h'.get? x = some { cls := .ref C, dict := some dx, data := .fields #[.ref t1, .none, .none, .none, .bool false, .none] }
  dbig : h.objs.size ≤ dx
  dne : dx ≠ x
  ns : h'.Ns1 dx (fun y => if y = "key" then some v else none)
structure Made (h h' : Heap) (e C d : Addr) (v : Value) : Prop where
  keep : ∀ b o, h.get? b = some o → h'.get? b = some o
  new : h.objs.size ≤ e
  obj : ∃ oe vs, h'.get? e = some oe ∧ oe.cls = .ref C ∧ oe.dict = some d ∧ oe.data = .fields vs ∧ vs[1]? = some .none
  dbig : h.objs.size ≤ d
  dne : d ≠ e
  ns : h'.Ns1 d (fun y => if y = "key" then some v else none)
section
variable {prog : Program} {w : World} {A : Around} {E : Value → Shared → Prop} {R : Result → Shared → Prop} {s : Shared} {K : Frag} {mg : Str → Option Value} {x0 q0 : Str} {C fI : Addr}
theorem init_run (T : Tx K mg x0 q0 C fI) {x t0 : Addr} {v : Value} (X : K.In s.heap) (hlim : s.heap.NoLimit) (hx : s.heap.get? x = some (excO C t0)) (hnx : K.lookup x = none) (hroom : A.depth < recursionLimit)
    (hq : ∀ h' tk dx, InitEnd s.heap h' x C dx t0 v → R (.ok (.ret .none)) { s with heap := h', toks := tk }) :
    codeAny (model prog w) A (.call (.ref fI) ⟨[.ref x, v], []⟩) R s := by
  obtain ⟨oc, od, doc, pm, an, cdv, ct, osl, p1, p2, q1, q2, q3, q4, ho, hcd⟩ := T.fn
  obtain ⟨nm, q, N, bs, bm, sn, sub, ab, col, dd, k0, k1, k2, k3, k5, hC, hbm⟩ := T.cls
  have hcl : clsIn K C = some { name := nm, bases := bs, mro := .ref C :: bm, ns := N, qualname := q, hasDict := true, slotNames := sn, subclasses := sub, abstract := ab, collection := col, hasDel := false } := by unfold clsIn; rw [hC] <;> rfl
  refine Att.call_fn (binds := [("self", .ref x), ("key", v)]) X hlim ho hcd hroom (BindsTo.of_eq (by first | rfl | with_unfolding_all rfl)) (by first | rfl | decide | with_unfolding_all rfl) (fun s₁ IC => ?_) rfl rfl rfl
  obtain ⟨h₁, tk₁, rfl⟩ := IC.toInCall.same
  have k : ∀ b o, s.heap.get? b = some o → h₁.get? b = some o := IC.toInCall.keep
  have hn := IC.toInCall.ns
  have hxL : s.heap.objs.size ≠ x := Nat.ne_of_gt (Heap.lt_size hx)
  have X₁ : K.In h₁ := X.keeps k
  have hx₁ := k _ _ hx
  show wpAny _ _ (execs _ _) _ _ _
  refine wpAny_execs_cons (plainObj_wpAny_Assign_Attribute ?_)
  refine slot_ld (v := v) hn (by first | rfl | with_unfolding_all rfl | kernel_rfl) (slot_ld (v := .ref x) hn (by first | rfl | with_unfolding_all rfl | kernel_rfl) ?_)
  refine set_plain X₁ (ox := excO C t0) (od := none) ⟨hx₁, rfl, rfl, trivial⟩ T.sa ?_
  refine first_store X₁ hx₁ hcl (show exRow (.ref C :: bm) = true from hbm) rfl T.noN (fun h₃ tk₃ dx k₃ dn dne hx₃ hn₃ => ?_)
  show wpAny _ _ (execs _ _) _ _ _
  have z : s.heap.objs.size < h₁.objs.size := hn.lt
  exact wpAny_execs_nil (hq h₃ tk₃ dx ⟨fun b o hb e => k₃ b o hb (k b o e), hx₃, Nat.le_of_lt (Nat.lt_of_lt_of_le z dn), dne, hn₃⟩)
theorem made_run (T : Tx K mg x0 q0 C fI) {v : Value} (X : K.In s.heap) (hlim : s.heap.NoLimit) (hroom : A.depth + 1 < recursionLimit)
    (hq : ∀ h' tk e d, Made s.heap h' e C d v → R (.ok (.ret (.ref e))) { s with heap := h', toks := tk }) :
    codeAny (model prog w) A (.call (.ref C) ⟨[v], []⟩) R s := by
  obtain ⟨nm, q, N, bs, bm, sn, sub, ab, col, dd, k0, k1, k2, k3, k5, hC, hbm⟩ := T.cls
  obtain ⟨hp, g, dr, tk, os⟩ := s
  have k : ∀ b o, hp.get? b = some o → ((hp.push (kdv_tup [v])).push (excO C hp.objs.size)).get? b = some o := fun b o e => Heap.get?_push_of_some _ (Heap.get?_push_of_some _ e)
  have hget : ((hp.push (kdv_tup [v])).push (excO C hp.objs.size)).get? (hp.objs.size + 1) = some (excO C hp.objs.size) := by heap_get
  have hnx : K.lookup (hp.objs.size + 1) = none := by
    cases e : K.lookup (hp.objs.size + 1) with
    | none => rfl
    | some o =>
      have z : hp.get? (hp.objs.size + 1) = some o := X _ _ e
      exact absurd (Nat.lt_of_succ_lt (Heap.lt_size z)) (Nat.lt_irrefl _)
  refine call_own F.excBase_Exception (fun X => exRow_has X bm hbm) (X _ _ hC) (looks_findIn X T.iC) (fun self => bind_fn X self T.tC) (one_size v) ?_
  refine init_run (s := ⟨(hp.push (kdv_tup [v])).push (excO C hp.objs.size), g, dr, tk, os⟩) T (X.keeps k) (hlim.keeps k) hget hnx ?_ fun h' tk' dx ⟨k', hx, dn, dne, hns⟩ => ?_
  · show A.depth + 1 < recursionLimit
    exact hroom
  · have old : ∀ b o, hp.get? b = some o → h'.get? b = some o := fun b o e => k' b o (Nat.ne_of_lt (Nat.lt_succ_of_lt (Heap.lt_size e))) (k b o e)
    have z : hp.objs.size + 1 + 1 ≤ dx := by
      first
        | (simpa only [Heap.size_push] using dn)
        | exact dn
        | (have q := dn; rw [Heap.size_push, Heap.size_push] at q; exact q)
    exact ⟨rfl, hq h' tk' (hp.objs.size + 1) dx ⟨old, Nat.le_succ _, ⟨_, _, hx, rfl, rfl, rfl, rfl⟩, Nat.le_trans (Nat.le_trans (Nat.le_succ _) (Nat.le_succ _)) z, dne, hns⟩⟩
end
end Ekey
end Bx
namespace Bx
namespace Ekey
open PySem PySem.Spec PyProof.Rows L2
theorem rel_key {v : V} {v' : Value} (r : RelV v v') (f : Str) : RelO (List.lookup f [(("key" : Str), v)]) (if f = "key" then some v' else none) := by
  by_cases hw : f = "key"
  · subst hw
    rw [if_pos rfl]
    have q : List.lookup ("key" : Str) [(("key" : Str), v)] = some v := by simp [List.lookup]
    rw [q]
    exact r
  · rw [if_neg hw]
    have qw : (f == ("key" : Str)) = false := by simpa using hw
    have q2 : List.lookup f [(("key" : Str), v)] = none := by simp [List.lookup, qw]
    rw [q2]
    trivial
section
variable {X : Cx} {C fI : Addr} {x0 q0 : Str}
/-- x0(e), an error with the field -/
def tMk (C : Addr) (ta : TA) : L2.St → Hp → XK → Prop := fun σ H Q => ta σ H fun vs H1 => ∃ v, vs = [v] ∧ ∀ d, H1 d = none → Q (.ref C) (some d) (upd H1 d (.xd [(("key" : Str), v)]))
theorem pmk {a : Expr} {ta : TA} {p pos : Pos} {k : Nat} (T : Tx X.K X.mg x0 q0 C fI) (hr : Room k X.A) (ha : PA X [a] ta) (hg : Gl X x0) (hdb : (x0 == ("__debug__" : Str)) = false := by decide)
    (he : starEach (a :: []) X.env = (false, eval a X.env) :: starEach [] X.env := by rfl) (hpl : (backTo pos (starEach [] X.env)).any (·.1) = false := by rfl) :
    PMk X (.Call (.Name x0 p) [a] [] pos) (tMk C ta) := by
  intro pins s σ H Q I h
  refine wpAny_Call_Name_kw (ld_glob I hg T.gC ?_ hdb)
  refine PySem.W.callWith_K (h₀ := X.base) I.ok.mod.kin T.kC (thn (ha.run pos pins s σ H _ I h) fun us s1 hh => ?_) he hpl
  obtain ⟨vs, H1, I1, r1, v, ev, q1⟩ := hh
  subst ev
  refine ⟨I1.kIn, ?_⟩
  cases r1 with
  | cons rv rn =>
    rename_i v' us'
    cases rn
    show wpAny _ _ (call (.ref C) [v']) _ _ _
    have hlim := I1.nolimit
    obtain ⟨hp, g, dr, tk, os⟩ := s1
    refine wpAny_call (made_run T I1.kIn hlim (by have := hr.dp; omega) fun h' tk' e d M => ?_)
    show MkP X pins σ Q (.ref e) ⟨h', g, dr, tk', os⟩
    obtain ⟨oe, fv, hoe, hc, hd, hdat, h1⟩ := M.obj
    have hns := M.ns
    obtain ⟨G', g1, g2⟩ := restrict h' fun b => decide (b ≠ e)
    have gk : ∀ b, b ≠ e → G'.get? b = h'.get? b := fun b hb => g1 b (decide_eq_true hb)
    have ge : G'.get? e = none := g2 e (by simp)
    have old : ∀ b o, hp.get? b = some o → G'.get? b = some o := fun b o q => (gk b (Nat.ne_of_lt (Nat.lt_of_lt_of_le (Heap.lt_size q) M.new))).trans (M.keep b o q)
    have ob : ObjOk X.prog X.w (upd H1 d (.xd [(("key" : Str), v)])) G' d (.xd [(("key" : Str), v)]) :=
      ⟨_, hns.at (fun o q => (gk d M.dne).trans q), fun f => rel_key rv f⟩
    have J : Inv X pins σ (upd H1 d (.xd [(("key" : Str), v)])) ⟨G', g, dr, tk', os⟩ := I1.laid (t' := tk') old M.dbig ob
    refine ⟨e, oe, fv, ⟨G', g, dr, tk', os⟩, _, .ref C, some d, rfl, J, fun b o q => ?_, ge, hoe, ⟨hc, hd⟩, hdat, h1, ?_, rfl, I1.bare, raises_own T.exC T.tyC, q1 d (I1.hok.fresh M.dbig)⟩
    · by_cases hb : b = e
      · have q' : G'.get? b = some o := q
        rw [hb, ge] at q'; cases q'
      · exact (gk b hb).symm.trans q
    · rw [upd_ne (Ne.symm M.dne)]
      exact I1.hok.fresh M.new
/-- raise x0(e) -/
def tRaise (C : Addr) (W : WX) (ta : TA) : TS := fun _ σ H => tMk C ta σ H fun cls d H' => W cls d σ H'
theorem ps {a : Expr} {ta : TA} {W : WX} {p pos pos2 : Pos} {k : Nat} (hc : X.calm = true) (T : Tx X.K X.mg x0 q0 C fI) (hr : Room k X.A) (tk : Takes X W) (ha : PA X [a] ta) (hg : Gl X x0) (hdb : (x0 == ("__debug__" : Str)) = false := by decide)
    (he : starEach (a :: []) X.env = (false, eval a X.env) :: starEach [] X.env := by rfl) (hpl : (backTo pos (starEach [] X.env)).any (·.1) = false := by rfl) :
    PS X (.Raise (some (.Call (.Name x0 p) [a] [] pos)) none pos2) (tRaise C W ta) := ps_raise hc tk (pmk T hr ha hg hdb he hpl)
theorem x_raise {W : WX} {ta : TA} {σ : L2.St} {H : Hp} {n b c : L2.St → Hp → Prop} {r : VK} (q : ta σ H fun vs H1 => ∃ v, vs = [v] ∧ ∀ d, H1 d = none → W (.ref C) (some d) σ (upd H1 d (.xd [(("key" : Str), v)]))) : tRaise C W ta ⟨n, r, b, c⟩ σ H := q
/-- n.key, n the error that the suite holds (at a; its class cls, its dict d) -/
def tBy (C : Addr) (a : Addr) (cls : Value) (d : Option Addr) (te : TE) : TE := fun σ H Q => te σ H fun x H1 => x = .ref a ∧ cls = .ref C ∧ ∃ (dd : Addr) (v : V), d = some dd ∧ H1 dd = some (.xd [(("key" : Str), v)]) ∧ Q v H1
theorem x_by {a dd : Addr} {te : TE} {σ : L2.St} {H : Hp} {Q : VK} {v : V} (q : te σ H fun x H1 => x = .ref a ∧ H1 dd = some (.xd [(("key" : Str), v)]) ∧ Q v H1) (m : ∀ Q Q' : VK, (∀ v H, Q v H → Q' v H) → te σ H Q → te σ H Q') : tBy C a (.ref C) (some dd) te σ H Q :=
  m _ _ (fun _ _ z => ⟨z.1, rfl, dd, v, rfl, z.2.1, z.2.2⟩) q
theorem pe_by {a : Addr} {oe : Obj} {cls : Value} {d : Option Addr} {pn : List (Addr × Obj)} {e : Expr} {te : TE} {pos : Pos} (T : Tx X.K X.mg x0 q0 C fI) (hz : Zc cls d oe) (hf : ∃ vs, oe.data = .fields vs) (he : PE (X.suite a ((a, oe) :: pn)) e te)
    (hb : attributeBase e "key" X.env (eval e X.env) = eval e X.env := by rfl) :
    PE (X.suite a ((a, oe) :: pn)) (.Attribute e "key" pos) (tBy C a cls d te) := by
  refine ⟨fun pins s σ H Q I h => ?_⟩
  refine attr_of hb (thn (he.run pins s σ H _ I h) fun u s1 hh => ?_)
  obtain ⟨x, H1, I1, rx, ex, ec, dd, v, ed, ea, q⟩ := hh
  subst ex
  obtain rfl : u = Value.ref a := rx
  subst ec
  subst ed
  obtain ⟨ha, _⟩ := I1.pin (a, oe) (List.mem_append_left _ List.mem_cons_self)
  obtain ⟨vs, hd⟩ := hf
  have hx : ObjOk X.prog X.w H1 s1.heap dd (.xd [(("key" : Str), v)]) := I1.hok dd _ ea
  obtain ⟨mA, hns, hr⟩ := hx
  obtain ⟨od, ho, hl⟩ := lookIn_ns hns
  have l : List.lookup ("key" : Str) [(("key" : Str), v)] = some v := by simp [List.lookup]
  obtain ⟨u, hu, ru⟩ := RelO.some_of (v := v) (o := mA "key") (by rw [← l]; exact hr "key")
  have J : PySem.W.InstAt s1.heap a oe C (some od) := ⟨ha, hz.1, by unfold PySem.W.notCls; rw [hd] <;> rfl, by rw [hz.2]; exact ho⟩
  exact HandSPX.exc_get I1.kIn J T.ga T.gg T.exC (PySem.W.findObj_own T.hdC T.noN rfl (by rw [hl, hu])) (handed_of ru) ⟨v, H1, I1.tok _, ru, q⟩
end
end Ekey
end Bx

namespace Bx
namespace Enumber
open PySem PySem.W PySem.Calls PyProof.Rows PySem.HandSPX
/-- the text of __init__(self, number) -/
def iA (p1 p2 : Pos) : Arguments := { posonlyargs := [], args := [{ arg := "self", annotation := none, pos := p1 }, { arg := "number", annotation := none, pos := p2 }], vararg := none, kwonlyargs := [], kw_defaults := [], kwarg := none, defaults := [] }
def iB (q1 q2 q3 q4 : Pos) : List Stmt := [.Assign [.Attribute (.Name "self" q1) "number" q2] (.Name "number" q3) q4]
def iS : Scope := { kind := .function, names := [(PySem.Str.ofString "self", .local), (PySem.Str.ofString "number", .local)], isGenerator := false, isCoroutine := false, more := [] }
/-- what stands of the class (named x, at C) and of its __init__ (at fI) -/
structure Tx (K : Frag) (mg : Str → Option Value) (x q : Str) (C fI : Addr) : Prop where
  gC : mg x = some (.ref C)
  cls : ∃ nm q N bs bm sn sub ab col dd k0 k1 k2 k3 k5, K.lookup C = some (excClassObj nm q C N bs bm true sn sub ab col dd k0 k1 k2 k3 k5 "Exception.__new__") ∧ exRow bm = true
  sa : findIn K (.ref C) "__setattr__" = some (some (.builtin "object.__setattr__"))
  ga : findIn K (.ref C) "__getattribute__" = some (some (.builtin "BaseException.__getattribute__"))
  gg : findIn K (.ref C) "__getattr__" = some none
  noN : findIn K (.ref C) "number" = some none
  iC : findIn K (.ref C) "__init__" = some (some (.ref fI))
  tC : typeIn K (.ref fI) = some (.type "function")
  kC : keepIn K (.ref C) = true
  exC : subIn K (.ref C) (.type "BaseException") = some true
  tyC : typeIn K (.ref C) = some (.type "type")
  hdC : hasDictIn K C = true
  te : exmOne K (.ref C) (.ref C) = some true
  fn : ∃ (oc : Value) (od : Option Addr) (doc pm : Value) (an : Option Addr) (cdv ct : Value) (osl : Array (Option Value)) (p1 p2 q1 q2 q3 q4 : Pos),
    K.lookup fI = some ⟨oc, od, .func (fnOf "__init__" q (iA p1 p2) (iB q1 q2 q3 q4) iS .none .none doc pm an cdv ct), osl⟩ ∧ codeIn K cdv q = true
structure InitEnd (h h' : Heap) (x C dx t1 : Addr) (v : Value) : Prop where
  keep : ∀ b o, b ≠ x → h.get? b = some o → h'.get? b = some o
  obj : h'.get? x = some { cls := .ref C, dict := some dx, data := .fields #[.ref t1, .none, .none, .none, .bool false, .none] }
  dbig : h.objs.size ≤ dx
  dne : dx ≠ x
  ns : h'.Ns1 dx (fun y => if y = "number" then some v else none)
structure Made (h h' : Heap) (e C d : Addr) (v : Value) : Prop where
  keep : ∀ b o, h.get? b = some o → h'.get? b = some o
  new : h.objs.size ≤ e
  obj : ∃ oe vs, h'.get? e = some oe ∧ oe.cls = .ref C ∧ oe.dict = some d ∧ oe.data = .fields vs ∧ vs[1]? = some .none
  dbig : h.objs.size ≤ d
  dne : d ≠ e
  ns : h'.Ns1 d (fun y => if y = "number" then some v else none)
section
variable {prog : Program} {w : World} {A : Around} {E : Value → Shared → Prop} {R : Result → Shared → Prop} {s : Shared} {K : Frag} {mg : Str → Option Value} {x0 q0 : Str} {C fI : Addr}
theorem init_run (T : Tx K mg x0 q0 C fI) {x t0 : Addr} {v : Value} (X : K.In s.heap) (hlim : s.heap.NoLimit) (hx : s.heap.get? x = some (excO C t0)) (hnx : K.lookup x = none) (hroom : A.depth < recursionLimit)
    (hq : ∀ h' tk dx, InitEnd s.heap h' x C dx t0 v → R (.ok (.ret .none)) { s with heap := h', toks := tk }) :
    codeAny (model prog w) A (.call (.ref fI) ⟨[.ref x, v], []⟩) R s := by
  obtain ⟨oc, od, doc, pm, an, cdv, ct, osl, p1, p2, q1, q2, q3, q4, ho, hcd⟩ := T.fn
  obtain ⟨nm, q, N, bs, bm, sn, sub, ab, col, dd, k0, k1, k2, k3, k5, hC, hbm⟩ := T.cls
  have hcl : clsIn K C = some { name := nm, bases := bs, mro := .ref C :: bm, ns := N, qualname := q, hasDict := true, slotNames := sn, subclasses := sub, abstract := ab, collection := col, hasDel := false } := by unfold clsIn; rw [hC] <;> rfl
  refine Att.call_fn (binds := [("self", .ref x), ("number", v)]) X hlim ho hcd hroom (BindsTo.of_eq (by first | rfl | with_unfolding_all rfl)) (by first | rfl | decide | with_unfolding_all rfl) (fun s₁ IC => ?_) rfl rfl rfl
  obtain ⟨h₁, tk₁, rfl⟩ := IC.toInCall.same
  have k : ∀ b o, s.heap.get? b = some o → h₁.get? b = some o := IC.toInCall.keep
  have hn := IC.toInCall.ns
  have hxL : s.heap.objs.size ≠ x := Nat.ne_of_gt (Heap.lt_size hx)
  have X₁ : K.In h₁ := X.keeps k
  have hx₁ := k _ _ hx
  show wpAny _ _ (execs _ _) _ _ _
  refine wpAny_execs_cons (plainObj_wpAny_Assign_Attribute ?_)
  refine slot_ld (v := v) hn (by first | rfl | with_unfolding_all rfl | kernel_rfl) (slot_ld (v := .ref x) hn (by first | rfl | with_unfolding_all rfl | kernel_rfl) ?_)
  refine set_plain X₁ (ox := excO C t0) (od := none) ⟨hx₁, rfl, rfl, trivial⟩ T.sa ?_
  refine first_store X₁ hx₁ hcl (show exRow (.ref C :: bm) = true from hbm) rfl T.noN (fun h₃ tk₃ dx k₃ dn dne hx₃ hn₃ => ?_)
  show wpAny _ _ (execs _ _) _ _ _
  have z : s.heap.objs.size < h₁.objs.size := hn.lt
  exact wpAny_execs_nil (hq h₃ tk₃ dx ⟨fun b o hb e => k₃ b o hb (k b o e), hx₃, Nat.le_of_lt (Nat.lt_of_lt_of_le z dn), dne, hn₃⟩)
theorem made_run (T : Tx K mg x0 q0 C fI) {v : Value} (X : K.In s.heap) (hlim : s.heap.NoLimit) (hroom : A.depth + 1 < recursionLimit)
    (hq : ∀ h' tk e d, Made s.heap h' e C d v → R (.ok (.ret (.ref e))) { s with heap := h', toks := tk }) :
    codeAny (model prog w) A (.call (.ref C) ⟨[v], []⟩) R s := by
  obtain ⟨nm, q, N, bs, bm, sn, sub, ab, col, dd, k0, k1, k2, k3, k5, hC, hbm⟩ := T.cls
  obtain ⟨hp, g, dr, tk, os⟩ := s
  have k : ∀ b o, hp.get? b = some o → ((hp.push (kdv_tup [v])).push (excO C hp.objs.size)).get? b = some o := fun b o e => Heap.get?_push_of_some _ (Heap.get?_push_of_some _ e)
  have hget : ((hp.push (kdv_tup [v])).push (excO C hp.objs.size)).get? (hp.objs.size + 1) = some (excO C hp.objs.size) := by heap_get
  have hnx : K.lookup (hp.objs.size + 1) = none := by
    cases e : K.lookup (hp.objs.size + 1) with
    | none => rfl
    | some o =>
      have z : hp.get? (hp.objs.size + 1) = some o := X _ _ e
      exact absurd (Nat.lt_of_succ_lt (Heap.lt_size z)) (Nat.lt_irrefl _)
  refine call_own F.excBase_Exception (fun X => exRow_has X bm hbm) (X _ _ hC) (looks_findIn X T.iC) (fun self => bind_fn X self T.tC) (one_size v) ?_
  refine init_run (s := ⟨(hp.push (kdv_tup [v])).push (excO C hp.objs.size), g, dr, tk, os⟩) T (X.keeps k) (hlim.keeps k) hget hnx ?_ fun h' tk' dx ⟨k', hx, dn, dne, hns⟩ => ?_
  · show A.depth + 1 < recursionLimit
    exact hroom
  · have old : ∀ b o, hp.get? b = some o → h'.get? b = some o := fun b o e => k' b o (Nat.ne_of_lt (Nat.lt_succ_of_lt (Heap.lt_size e))) (k b o e)
    have z : hp.objs.size + 1 + 1 ≤ dx := by
      first
        | (simpa only [Heap.size_push] using dn)
        | exact dn
        | (have q := dn; rw [Heap.size_push, Heap.size_push] at q; exact q)
    exact ⟨rfl, hq h' tk' (hp.objs.size + 1) dx ⟨old, Nat.le_succ _, ⟨_, _, hx, rfl, rfl, rfl, rfl⟩, Nat.le_trans (Nat.le_trans (Nat.le_succ _) (Nat.le_succ _)) z, dne, hns⟩⟩
end
end Enumber
end Bx
namespace Bx
namespace Enumber
open PySem PySem.Spec PyProof.Rows L2
theorem rel_number {v : V} {v' : Value} (r : RelV v v') (f : Str) : RelO (List.lookup f [(("number" : Str), v)]) (if f = "number" then some v' else none) := by
  by_cases hw : f = "number"
  · subst hw
    rw [if_pos rfl]
    have q : List.lookup ("number" : Str) [(("number" : Str), v)] = some v := by simp [List.lookup]
    rw [q]
    exact r
  · rw [if_neg hw]
    have qw : (f == ("number" : Str)) = false := by simpa using hw
    have q2 : List.lookup f [(("number" : Str), v)] = none := by simp [List.lookup, qw]
    rw [q2]
    trivial
section
variable {X : Cx} {C fI : Addr} {x0 q0 : Str}
/-- x0(e), an error with the field -/
def tMk (C : Addr) (ta : TA) : L2.St → Hp → XK → Prop := fun σ H Q => ta σ H fun vs H1 => ∃ v, vs = [v] ∧ ∀ d, H1 d = none → Q (.ref C) (some d) (upd H1 d (.xd [(("number" : Str), v)]))
theorem pmk {a : Expr} {ta : TA} {p pos : Pos} {k : Nat} (T : Tx X.K X.mg x0 q0 C fI) (hr : Room k X.A) (ha : PA X [a] ta) (hg : Gl X x0) (hdb : (x0 == ("__debug__" : Str)) = false := by decide)
    (he : starEach (a :: []) X.env = (false, eval a X.env) :: starEach [] X.env := by rfl) (hpl : (backTo pos (starEach [] X.env)).any (·.1) = false := by rfl) :
    PMk X (.Call (.Name x0 p) [a] [] pos) (tMk C ta) := by
  intro pins s σ H Q I h
  refine wpAny_Call_Name_kw (ld_glob I hg T.gC ?_ hdb)
  refine PySem.W.callWith_K (h₀ := X.base) I.ok.mod.kin T.kC (thn (ha.run pos pins s σ H _ I h) fun us s1 hh => ?_) he hpl
  obtain ⟨vs, H1, I1, r1, v, ev, q1⟩ := hh
  subst ev
  refine ⟨I1.kIn, ?_⟩
  cases r1 with
  | cons rv rn =>
    rename_i v' us'
    cases rn
    show wpAny _ _ (call (.ref C) [v']) _ _ _
    have hlim := I1.nolimit
    obtain ⟨hp, g, dr, tk, os⟩ := s1
    refine wpAny_call (made_run T I1.kIn hlim (by have := hr.dp; omega) fun h' tk' e d M => ?_)
    show MkP X pins σ Q (.ref e) ⟨h', g, dr, tk', os⟩
    obtain ⟨oe, fv, hoe, hc, hd, hdat, h1⟩ := M.obj
    have hns := M.ns
    obtain ⟨G', g1, g2⟩ := restrict h' fun b => decide (b ≠ e)
    have gk : ∀ b, b ≠ e → G'.get? b = h'.get? b := fun b hb => g1 b (decide_eq_true hb)
    have ge : G'.get? e = none := g2 e (by simp)
    have old : ∀ b o, hp.get? b = some o → G'.get? b = some o := fun b o q => (gk b (Nat.ne_of_lt (Nat.lt_of_lt_of_le (Heap.lt_size q) M.new))).trans (M.keep b o q)
    have ob : ObjOk X.prog X.w (upd H1 d (.xd [(("number" : Str), v)])) G' d (.xd [(("number" : Str), v)]) :=
      ⟨_, hns.at (fun o q => (gk d M.dne).trans q), fun f => rel_number rv f⟩
    have J : Inv X pins σ (upd H1 d (.xd [(("number" : Str), v)])) ⟨G', g, dr, tk', os⟩ := I1.laid (t' := tk') old M.dbig ob
    refine ⟨e, oe, fv, ⟨G', g, dr, tk', os⟩, _, .ref C, some d, rfl, J, fun b o q => ?_, ge, hoe, ⟨hc, hd⟩, hdat, h1, ?_, rfl, I1.bare, raises_own T.exC T.tyC, q1 d (I1.hok.fresh M.dbig)⟩
    · by_cases hb : b = e
      · have q' : G'.get? b = some o := q
        rw [hb, ge] at q'; cases q'
      · exact (gk b hb).symm.trans q
    · rw [upd_ne (Ne.symm M.dne)]
      exact I1.hok.fresh M.new
/-- raise x0(e) -/
def tRaise (C : Addr) (W : WX) (ta : TA) : TS := fun _ σ H => tMk C ta σ H fun cls d H' => W cls d σ H'
theorem ps {a : Expr} {ta : TA} {W : WX} {p pos pos2 : Pos} {k : Nat} (hc : X.calm = true) (T : Tx X.K X.mg x0 q0 C fI) (hr : Room k X.A) (tk : Takes X W) (ha : PA X [a] ta) (hg : Gl X x0) (hdb : (x0 == ("__debug__" : Str)) = false := by decide)
    (he : starEach (a :: []) X.env = (false, eval a X.env) :: starEach [] X.env := by rfl) (hpl : (backTo pos (starEach [] X.env)).any (·.1) = false := by rfl) :
    PS X (.Raise (some (.Call (.Name x0 p) [a] [] pos)) none pos2) (tRaise C W ta) := ps_raise hc tk (pmk T hr ha hg hdb he hpl)
theorem x_raise {W : WX} {ta : TA} {σ : L2.St} {H : Hp} {n b c : L2.St → Hp → Prop} {r : VK} (q : ta σ H fun vs H1 => ∃ v, vs = [v] ∧ ∀ d, H1 d = none → W (.ref C) (some d) σ (upd H1 d (.xd [(("number" : Str), v)]))) : tRaise C W ta ⟨n, r, b, c⟩ σ H := q
/-- n.number, n the error that the suite holds (at a; its class cls, its dict d) -/
def tBy (C : Addr) (a : Addr) (cls : Value) (d : Option Addr) (te : TE) : TE := fun σ H Q => te σ H fun x H1 => x = .ref a ∧ cls = .ref C ∧ ∃ (dd : Addr) (v : V), d = some dd ∧ H1 dd = some (.xd [(("number" : Str), v)]) ∧ Q v H1
theorem x_by {a dd : Addr} {te : TE} {σ : L2.St} {H : Hp} {Q : VK} {v : V} (q : te σ H fun x H1 => x = .ref a ∧ H1 dd = some (.xd [(("number" : Str), v)]) ∧ Q v H1) (m : ∀ Q Q' : VK, (∀ v H, Q v H → Q' v H) → te σ H Q → te σ H Q') : tBy C a (.ref C) (some dd) te σ H Q :=
  m _ _ (fun _ _ z => ⟨z.1, rfl, dd, v, rfl, z.2.1, z.2.2⟩) q
theorem pe_by {a : Addr} {oe : Obj} {cls : Value} {d : Option Addr} {pn : List (Addr × Obj)} {e : Expr} {te : TE} {pos : Pos} (T : Tx X.K X.mg x0 q0 C fI) (hz : Zc cls d oe) (hf : ∃ vs, oe.data = .fields vs) (he : PE (X.suite a ((a, oe) :: pn)) e te)
    (hb : attributeBase e "number" X.env (eval e X.env) = eval e X.env := by rfl) :
    PE (X.suite a ((a, oe) :: pn)) (.Attribute e "number" pos) (tBy C a cls d te) := by
  refine ⟨fun pins s σ H Q I h => ?_⟩
  refine attr_of hb (thn (he.run pins s σ H _ I h) fun u s1 hh => ?_)
  obtain ⟨x, H1, I1, rx, ex, ec, dd, v, ed, ea, q⟩ := hh
  subst ex
  obtain rfl : u = Value.ref a := rx
  subst ec
  subst ed
  obtain ⟨ha, _⟩ := I1.pin (a, oe) (List.mem_append_left _ List.mem_cons_self)
  obtain ⟨vs, hd⟩ := hf
  have hx : ObjOk X.prog X.w H1 s1.heap dd (.xd [(("number" : Str), v)]) := I1.hok dd _ ea
  obtain ⟨mA, hns, hr⟩ := hx
  obtain ⟨od, ho, hl⟩ := lookIn_ns hns
  have l : List.lookup ("number" : Str) [(("number" : Str), v)] = some v := by simp [List.lookup]
  obtain ⟨u, hu, ru⟩ := RelO.some_of (v := v) (o := mA "number") (by rw [← l]; exact hr "number")
  have J : PySem.W.InstAt s1.heap a oe C (some od) := ⟨ha, hz.1, by unfold PySem.W.notCls; rw [hd] <;> rfl, by rw [hz.2]; exact ho⟩
  exact HandSPX.exc_get I1.kIn J T.ga T.gg T.exC (PySem.W.findObj_own T.hdC T.noN rfl (by rw [hl, hu])) (handed_of ru) ⟨v, H1, I1.tok _, ru, q⟩
end
end Enumber
end Bx

namespace Bx
namespace Eword
open PySem PySem.W PySem.Calls PyProof.Rows PySem.HandSPX
/-- the text of __init__(self, word) -/
def iA (p1 p2 : Pos) : Arguments := { posonlyargs := [], args := [{ arg := "self", annotation := none, pos := p1 }, { arg := "word", annotation := none, pos := p2 }], vararg := none, kwonlyargs := [], kw_defaults := [], kwarg := none, defaults := [] }
def iB (q1 q2 q3 q4 : Pos) : List Stmt := [.Assign [.Attribute (.Name "self" q1) "word" q2] (.Name "word" q3) q4]
def iS : Scope := { kind := .function, names := [(PySem.Str.ofString "self", .local), (PySem.Str.ofString "word", .local)], isGenerator := false, isCoroutine := false, more := [] }
/-- what stands of the class (named x, at C) and of its __init__ (at fI) -/
structure Tx (K : Frag) (mg : Str → Option Value) (x q : Str) (C fI : Addr) : Prop where
  gC : mg x = some (.ref C)
  cls : ∃ nm q N bs bm sn sub ab col dd k0 k1 k2 k3 k5, K.lookup C = some (excClassObj nm q C N bs bm true sn sub ab col dd k0 k1 k2 k3 k5 "Exception.__new__") ∧ exRow bm = true
  sa : findIn K (.ref C) "__setattr__" = some (some (.builtin "object.__setattr__"))
  ga : findIn K (.ref C) "__getattribute__" = some (some (.builtin "BaseException.__getattribute__"))
  gg : findIn K (.ref C) "__getattr__" = some none
  noN : findIn K (.ref C) "word" = some none
  iC : findIn K (.ref C) "__init__" = some (some (.ref fI))
  tC : typeIn K (.ref fI) = some (.type "function")
  kC : keepIn K (.ref C) = true
  exC : subIn K (.ref C) (.type "BaseException") = some true
  tyC : typeIn K (.ref C) = some (.type "type")
  hdC : hasDictIn K C = true
  te : exmOne K (.ref C) (.ref C) = some true
  fn : ∃ (oc : Value) (od : Option Addr) (doc pm : Value) (an : Option Addr) (cdv ct : Value) (osl : Array (Option Value)) (p1 p2 q1 q2 q3 q4 : Pos),
    K.lookup fI = some ⟨oc, od, .func (fnOf "__init__" q (iA p1 p2) (iB q1 q2 q3 q4) iS .none .none doc pm an cdv ct), osl⟩ ∧ codeIn K cdv q = true
structure InitEnd (h h' : Heap) (x C dx t1 : Addr) (v : Value) : Prop where
  keep : ∀ b o, b ≠ x → h.get? b = some o → h'.get? b = some o
  obj : h'.get? x = some { cls := .ref C, dict := some dx, data := .fields #[.ref t1, .none, .none, .none, .bool false, .none] }
  dbig : h.objs.size ≤ dx
  dne : dx ≠ x
  ns : h'.Ns1 dx (fun y => if y = "word" then some v else none)
structure Made (h h' : Heap) (e C d : Addr) (v : Value) : Prop where
  keep : ∀ b o, h.get? b = some o → h'.get? b = some o
  new : h.objs.size ≤ e
  obj : ∃ oe vs, h'.get? e = some oe ∧ oe.cls = .ref C ∧ oe.dict = some d ∧ oe.data = .fields vs ∧ vs[1]? = some .none
  dbig : h.objs.size ≤ d
  dne : d ≠ e
  ns : h'.Ns1 d (fun y => if y = "word" then some v else none)
section
variable {prog : Program} {w : World} {A : Around} {E : Value → Shared → Prop} {R : Result → Shared → Prop} {s : Shared} {K : Frag} {mg : Str → Option Value} {x0 q0 : Str} {C fI : Addr}
theorem init_run (T : Tx K mg x0 q0 C fI) {x t0 : Addr} {v : Value} (X : K.In s.heap) (hlim : s.heap.NoLimit) (hx : s.heap.get? x = some (excO C t0)) (hnx : K.lookup x = none) (hroom : A.depth < recursionLimit)
    (hq : ∀ h' tk dx, InitEnd s.heap h' x C dx t0 v → R (.ok (.ret .none)) { s with heap := h', toks := tk }) :
    codeAny (model prog w) A (.call (.ref fI) ⟨[.ref x, v], []⟩) R s := by
  obtain ⟨oc, od, doc, pm, an, cdv, ct, osl, p1, p2, q1, q2, q3, q4, ho, hcd⟩ := T.fn
  obtain ⟨nm, q, N, bs, bm, sn, sub, ab, col, dd, k0, k1, k2, k3, k5, hC, hbm⟩ := T.cls
  have hcl : clsIn K C = some { name := nm, bases := bs, mro := .ref C :: bm, ns := N, qualname := q, hasDict := true, slotNames := sn, subclasses := sub, abstract := ab, collection := col, hasDel := false } := by unfold clsIn; rw [hC] <;> rfl
  refine Att.call_fn (binds := [("self", .ref x), ("word", v)]) X hlim ho hcd hroom (BindsTo.of_eq (by first | rfl | with_unfolding_all rfl)) (by first | rfl | decide | with_unfolding_all rfl) (fun s₁ IC => ?_) rfl rfl rfl
  obtain ⟨h₁, tk₁, rfl⟩ := IC.toInCall.same
  have k : ∀ b o, s.heap.get? b = some o → h₁.get? b = some o := IC.toInCall.keep
  have hn := IC.toInCall.ns
  have hxL : s.heap.objs.size ≠ x := Nat.ne_of_gt (Heap.lt_size hx)
  have X₁ : K.In h₁ := X.keeps k
  have hx₁ := k _ _ hx
  show wpAny _ _ (execs _ _) _ _ _
  refine wpAny_execs_cons (plainObj_wpAny_Assign_Attribute ?_)
  refine slot_ld (v := v) hn (by first | rfl | with_unfolding_all rfl | kernel_rfl) (slot_ld (v := .ref x) hn (by first | rfl | with_unfolding_all rfl | kernel_rfl) ?_)
  refine set_plain X₁ (ox := excO C t0) (od := none) ⟨hx₁, rfl, rfl, trivial⟩ T.sa ?_
  refine first_store X₁ hx₁ hcl (show exRow (.ref C :: bm) = true from hbm) rfl T.noN (fun h₃ tk₃ dx k₃ dn dne hx₃ hn₃ => ?_)
  show wpAny _ _ (execs _ _) _ _ _
  have z : s.heap.objs.size < h₁.objs.size := hn.lt
  exact wpAny_execs_nil (hq h₃ tk₃ dx ⟨fun b o hb e => k₃ b o hb (k b o e), hx₃, Nat.le_of_lt (Nat.lt_of_lt_of_le z dn), dne, hn₃⟩)
theorem made_run (T : Tx K mg x0 q0 C fI) {v : Value} (X : K.In s.heap) (hlim : s.heap.NoLimit) (hroom : A.depth + 1 < recursionLimit)
    (hq : ∀ h' tk e d, Made s.heap h' e C d v → R (.ok (.ret (.ref e))) { s with heap := h', toks := tk }) :
    codeAny (model prog w) A (.call (.ref C) ⟨[v], []⟩) R s := by
  obtain ⟨nm, q, N, bs, bm, sn, sub, ab, col, dd, k0, k1, k2, k3, k5, hC, hbm⟩ := T.cls
  obtain ⟨hp, g, dr, tk, os⟩ := s
  have k : ∀ b o, hp.get? b = some o → ((hp.push (kdv_tup [v])).push (excO C hp.objs.size)).get? b = some o := fun b o e => Heap.get?_push_of_some _ (Heap.get?_push_of_some _ e)
  have hget : ((hp.push (kdv_tup [v])).push (excO C hp.objs.size)).get? (hp.objs.size + 1) = some (excO C hp.objs.size) := by heap_get
  have hnx : K.lookup (hp.objs.size + 1) = none := by
    cases e : K.lookup (hp.objs.size + 1) with
    | none => rfl
    | some o =>
      have z : hp.get? (hp.objs.size + 1) = some o := X _ _ e
      exact absurd (Nat.lt_of_succ_lt (Heap.lt_size z)) (Nat.lt_irrefl _)
  refine call_own F.excBase_Exception (fun X => exRow_has X bm hbm) (X _ _ hC) (looks_findIn X T.iC) (fun self => bind_fn X self T.tC) (one_size v) ?_
  refine init_run (s := ⟨(hp.push (kdv_tup [v])).push (excO C hp.objs.size), g, dr, tk, os⟩) T (X.keeps k) (hlim.keeps k) hget hnx ?_ fun h' tk' dx ⟨k', hx, dn, dne, hns⟩ => ?_
  · show A.depth + 1 < recursionLimit
    exact hroom
  · have old : ∀ b o, hp.get? b = some o → h'.get? b = some o := fun b o e => k' b o (Nat.ne_of_lt (Nat.lt_succ_of_lt (Heap.lt_size e))) (k b o e)
    have z : hp.objs.size + 1 + 1 ≤ dx := by
      first
        | (simpa only [Heap.size_push] using dn)
        | exact dn
        | (have q := dn; rw [Heap.size_push, Heap.size_push] at q; exact q)
    exact ⟨rfl, hq h' tk' (hp.objs.size + 1) dx ⟨old, Nat.le_succ _, ⟨_, _, hx, rfl, rfl, rfl, rfl⟩, Nat.le_trans (Nat.le_trans (Nat.le_succ _) (Nat.le_succ _)) z, dne, hns⟩⟩
end
end Eword
end Bx
namespace Bx
namespace Eword
open PySem PySem.Spec PyProof.Rows L2
theorem rel_word {v : V} {v' : Value} (r : RelV v v') (f : Str) : RelO (List.lookup f [(("word" : Str), v)]) (if f = "word" then some v' else none) := by
  by_cases hw : f = "word"
  · subst hw
    rw [if_pos rfl]
    have q : List.lookup ("word" : Str) [(("word" : Str), v)] = some v := by simp [List.lookup]
    rw [q]
    exact r
  · rw [if_neg hw]
    have qw : (f == ("word" : Str)) = false := by simpa using hw
    have q2 : List.lookup f [(("word" : Str), v)] = none := by simp [List.lookup, qw]
    rw [q2]
    trivial
section
variable {X : Cx} {C fI : Addr} {x0 q0 : Str}
/-- x0(e), an error with the field -/
def tMk (C : Addr) (ta : TA) : L2.St → Hp → XK → Prop := fun σ H Q => ta σ H fun vs H1 => ∃ v, vs = [v] ∧ ∀ d, H1 d = none → Q (.ref C) (some d) (upd H1 d (.xd [(("word" : Str), v)]))
theorem pmk {a : Expr} {ta : TA} {p pos : Pos} {k : Nat} (T : Tx X.K X.mg x0 q0 C fI) (hr : Room k X.A) (ha : PA X [a] ta) (hg : Gl X x0) (hdb : (x0 == ("__debug__" : Str)) = false := by decide)
    (he : starEach (a :: []) X.env = (false, eval a X.env) :: starEach [] X.env := by rfl) (hpl : (backTo pos (starEach [] X.env)).any (·.1) = false := by rfl) :
    PMk X (.Call (.Name x0 p) [a] [] pos) (tMk C ta) := by
  intro pins s σ H Q I h
  refine wpAny_Call_Name_kw (ld_glob I hg T.gC ?_ hdb)
  refine PySem.W.callWith_K (h₀ := X.base) I.ok.mod.kin T.kC (thn (ha.run pos pins s σ H _ I h) fun us s1 hh => ?_) he hpl
  obtain ⟨vs, H1, I1, r1, v, ev, q1⟩ := hh
  subst ev
  refine ⟨I1.kIn, ?_⟩
  cases r1 with
  | cons rv rn =>
    rename_i v' us'
    cases rn
    show wpAny _ _ (call (.ref C) [v']) _ _ _
    have hlim := I1.nolimit
    obtain ⟨hp, g, dr, tk, os⟩ := s1
    refine wpAny_call (made_run T I1.kIn hlim (by have := hr.dp; omega) fun h' tk' e d M => ?_)
    show MkP X pins σ Q (.ref e) ⟨h', g, dr, tk', os⟩
    obtain ⟨oe, fv, hoe, hc, hd, hdat, h1⟩ := M.obj
    have hns := M.ns
    obtain ⟨G', g1, g2⟩ := restrict h' fun b => decide (b ≠ e)
    have gk : ∀ b, b ≠ e → G'.get? b = h'.get? b := fun b hb => g1 b (decide_eq_true hb)
    have ge : G'.get? e = none := g2 e (by simp)
    have old : ∀ b o, hp.get? b = some o → G'.get? b = some o := fun b o q => (gk b (Nat.ne_of_lt (Nat.lt_of_lt_of_le (Heap.lt_size q) M.new))).trans (M.keep b o q)
    have ob : ObjOk X.prog X.w (upd H1 d (.xd [(("word" : Str), v)])) G' d (.xd [(("word" : Str), v)]) :=
      ⟨_, hns.at (fun o q => (gk d M.dne).trans q), fun f => rel_word rv f⟩
    have J : Inv X pins σ (upd H1 d (.xd [(("word" : Str), v)])) ⟨G', g, dr, tk', os⟩ := I1.laid (t' := tk') old M.dbig ob
    refine ⟨e, oe, fv, ⟨G', g, dr, tk', os⟩, _, .ref C, some d, rfl, J, fun b o q => ?_, ge, hoe, ⟨hc, hd⟩, hdat, h1, ?_, rfl, I1.bare, raises_own T.exC T.tyC, q1 d (I1.hok.fresh M.dbig)⟩
    · by_cases hb : b = e
      · have q' : G'.get? b = some o := q
        rw [hb, ge] at q'; cases q'
      · exact (gk b hb).symm.trans q
    · rw [upd_ne (Ne.symm M.dne)]
      exact I1.hok.fresh M.new
/-- raise x0(e) -/
def tRaise (C : Addr) (W : WX) (ta : TA) : TS := fun _ σ H => tMk C ta σ H fun cls d H' => W cls d σ H'
theorem ps {a : Expr} {ta : TA} {W : WX} {p pos pos2 : Pos} {k : Nat} (hc : X.calm = true) (T : Tx X.K X.mg x0 q0 C fI) (hr : Room k X.A) (tk : Takes X W) (ha : PA X [a] ta) (hg : Gl X x0) (hdb : (x0 == ("__debug__" : Str)) = false := by decide)
    (he : starEach (a :: []) X.env = (false, eval a X.env) :: starEach [] X.env := by rfl) (hpl : (backTo pos (starEach [] X.env)).any (·.1) = false := by rfl) :
    PS X (.Raise (some (.Call (.Name x0 p) [a] [] pos)) none pos2) (tRaise C W ta) := ps_raise hc tk (pmk T hr ha hg hdb he hpl)
theorem x_raise {W : WX} {ta : TA} {σ : L2.St} {H : Hp} {n b c : L2.St → Hp → Prop} {r : VK} (q : ta σ H fun vs H1 => ∃ v, vs = [v] ∧ ∀ d, H1 d = none → W (.ref C) (some d) σ (upd H1 d (.xd [(("word" : Str), v)]))) : tRaise C W ta ⟨n, r, b, c⟩ σ H := q
/-- n.word, n the error that the suite holds (at a; its class cls, its dict d) -/
def tBy (C : Addr) (a : Addr) (cls : Value) (d : Option Addr) (te : TE) : TE := fun σ H Q => te σ H fun x H1 => x = .ref a ∧ cls = .ref C ∧ ∃ (dd : Addr) (v : V), d = some dd ∧ H1 dd = some (.xd [(("word" : Str), v)]) ∧ Q v H1
theorem x_by {a dd : Addr} {te : TE} {σ : L2.St} {H : Hp} {Q : VK} {v : V} (q : te σ H fun x H1 => x = .ref a ∧ H1 dd = some (.xd [(("word" : Str), v)]) ∧ Q v H1) (m : ∀ Q Q' : VK, (∀ v H, Q v H → Q' v H) → te σ H Q → te σ H Q') : tBy C a (.ref C) (some dd) te σ H Q :=
  m _ _ (fun _ _ z => ⟨z.1, rfl, dd, v, rfl, z.2.1, z.2.2⟩) q
theorem pe_by {a : Addr} {oe : Obj} {cls : Value} {d : Option Addr} {pn : List (Addr × Obj)} {e : Expr} {te : TE} {pos : Pos} (T : Tx X.K X.mg x0 q0 C fI) (hz : Zc cls d oe) (hf : ∃ vs, oe.data = .fields vs) (he : PE (X.suite a ((a, oe) :: pn)) e te)
    (hb : attributeBase e "word" X.env (eval e X.env) = eval e X.env := by rfl) :
    PE (X.suite a ((a, oe) :: pn)) (.Attribute e "word" pos) (tBy C a cls d te) := by
  refine ⟨fun pins s σ H Q I h => ?_⟩
  refine attr_of hb (thn (he.run pins s σ H _ I h) fun u s1 hh => ?_)
  obtain ⟨x, H1, I1, rx, ex, ec, dd, v, ed, ea, q⟩ := hh
  subst ex
  obtain rfl : u = Value.ref a := rx
  subst ec
  subst ed
  obtain ⟨ha, _⟩ := I1.pin (a, oe) (List.mem_append_left _ List.mem_cons_self)
  obtain ⟨vs, hd⟩ := hf
  have hx : ObjOk X.prog X.w H1 s1.heap dd (.xd [(("word" : Str), v)]) := I1.hok dd _ ea
  obtain ⟨mA, hns, hr⟩ := hx
  obtain ⟨od, ho, hl⟩ := lookIn_ns hns
  have l : List.lookup ("word" : Str) [(("word" : Str), v)] = some v := by simp [List.lookup]
  obtain ⟨u, hu, ru⟩ := RelO.some_of (v := v) (o := mA "word") (by rw [← l]; exact hr "word")
  have J : PySem.W.InstAt s1.heap a oe C (some od) := ⟨ha, hz.1, by unfold PySem.W.notCls; rw [hd] <;> rfl, by rw [hz.2]; exact ho⟩
  exact HandSPX.exc_get I1.kIn J T.ga T.gg T.exC (PySem.W.findObj_own T.hdC T.noN rfl (by rw [hl, hu])) (handed_of ru) ⟨v, H1, I1.tok _, ru, q⟩
end
end Eword
end Bx

namespace Bx
open PySem PySem.Spec PyProof.Rows L2
/-! ### own errors as values -/
/-- an error of the class at C, at a; d: the dict of its attributes, if it has one -/
def ExV (C : Addr) (d : Option Addr) (a : Addr) : HO := .ext fun h => ∃ oe : Obj, h.get? a = some oe ∧ Zc (.ref C) d oe ∧ ∃ vs, oe.data = .fields vs
theorem exV_ok {P : Program} {w : World} {H : Hp} {h : Heap} {a C : Addr} {d : Option Addr} {oe : Obj} (e : h.get? a = some oe) (z : Zc (.ref C) d oe) (hv : ∃ vs, oe.data = .fields vs) : ObjOk P w H h a (ExV C d a) :=
  ⟨⟨oe, e, z, hv⟩, ⟨oe, e⟩, fun _ _ ⟨o, q, r⟩ k => ⟨o, k o q, r⟩⟩
section
variable {X : Cx}
/-- what an error's class says, for isinstance -/
structure ExcC2 (K : PySem.W.Frag) (D : Addr) : Prop where
  hc : (PySem.W.clsIn K D).isSome = true
  hg : PySem.W.findIn K (.ref D) "__getattribute__" = some (some (.builtin "BaseException.__getattribute__"))
  hk : PySem.W.findIn K (.ref D) "__getattr__" = some none
  hs : PySem.W.subIn K (.ref D) (.type "BaseException") = some true
  ha : PySem.W.findIn K (.ref D) "__class__" = some (some (.builtin "object.__class__"))
  hn : PySem.W.specialIn K (.builtin "object.__class__") "__get__" = some (some (.builtin "getset_descriptor.__get__"))
  ht : PySem.W.takesIn K (.builtin "object.__class__") = some true
  hm : PySem.W.mroIn K D (.type "object") = some true
/-- isinstance(e, c), e an error as a value -/
def rIsV (K : PySem.W.Frag) (Cs : List Addr) : List V → Hp → VK → Prop := fun xs H Q => ∃ (a C : Addr) (d : Option Addr) (c : V) (cv : Value) (b : Bool), xs = [.ref a, c] ∧ C ∈ Cs ∧ (∀ u, RelV c u → u = cv) ∧ H a = some (ExV C d a) ∧ (∀ dx, d = some dx → ∃ fs, H dx = some (.xd fs)) ∧ PySem.W.kitOne K (.ref C) cv = some b ∧ Q (.bl b) H
theorem call_isV {Cs : List Addr} (hC : ∀ C, C ∈ Cs → ExcC2 X.K C) : CallR X (.builtin "isinstance") (rIsV X.K Cs) := by
  intro pins s σ H xs us Q I r h
  obtain ⟨a, C, d, c, cv, b, rfl, hCs, hcv, ea, ed, e, q⟩ := h
  cases r with
  | cons rx rr =>
    cases rr with
    | cons rt rr =>
      cases rr
      cases rx
      have ec := hcv _ rt
      subst ec
      have c2 := hC C hCs
      obtain ⟨⟨oe, ha, hz, vs, hd⟩, _, _⟩ := I.hok a _ ea
      have J : ∃ od, PySem.W.InstAt s.heap a oe C od := by
        cases d with
        | none =>
          obtain ⟨oc, od, oda, osl⟩ := oe
          obtain ⟨h1, h2⟩ := hz
          dsimp only at h1 h2 hd
          subst h1 h2 hd
          exact ⟨none, ha, rfl, rfl, trivial⟩
        | some dx =>
          obtain ⟨fs, ex⟩ := ed dx rfl
          obtain ⟨mA, hns, _⟩ := I.hok dx _ ex
          obtain ⟨od, ho, _⟩ := lookIn_ns hns
          exact ⟨some od, ha, hz.1, by unfold PySem.W.notCls; rw [hd] <;> rfl, by rw [hz.2]; exact ho⟩
      obtain ⟨od, J⟩ := J
      exact PySem.W.kia_one (PySem.W.kitx_exc c2.hc c2.hg c2.hk c2.hs c2.ha c2.hn c2.ht c2.hm) I.kIn J e (fun z => nomatch z) fun tk => ⟨.bl b, H, I.kept (t' := tk) fun _ _ z => z, rfl, q⟩
/-- X(), an own error without an own __init__, as a value -/
def tNew0 (C : Addr) : TE := fun _ H Q => ∀ a, H a = none → Q (.ref a) (upd H a (ExV C none a))
theorem pe_new0 {C : Addr} {bmB : List Value} {B newId initId : String} {x : Str} {p pos : Pos} (F : ExcBaseFacts B newId initId bmB) (q : PySem.W.excIn X.K C bmB newId = true) (gC : X.mg x = some (.ref C)) (kC : PySem.W.keepIn X.K (.ref C) = true) (hg : Gl X x) (hdb : (x == ("__debug__" : Str)) = false := by decide) :
    PE X (.Call (.Name x p) [] [] pos) (tNew0 C) := by
  refine ⟨fun pins s σ H Q I h => ?_⟩
  refine wpAny_Call_Name_kw (ld_glob I hg gC ?_ hdb)
  refine PySem.W.callWith_K0 I.kIn kC ?_
  show wpAny _ _ (call (.ref C) []) _ _ _
  obtain ⟨bm, N, nm, qn, bs, hdct, sn, sub, ab, col, dd, k0, k1, k2, k3, k5, mN, hC, hN, hni, T⟩ := exc_obj I.kIn q
  refine wpAny_call_exc_subT F T hC hN hni (fun h' a hm => ?_) (by show 0 ≤ sizeLine; omega)
  have hn : H a = none := I.hok.gone hm.new
  obtain ⟨t, ht, _, _⟩ := hm.there
  exact ⟨.ref a, upd H a (ExV C none a), I.laidN hm.keeps hm.new hn (exV_ok ht ⟨rfl, rfl⟩ ⟨_, rfl⟩), rfl, h a hn⟩
end
end Bx

namespace Bx
namespace Eat
open PySem PySem.Spec PyProof.Rows L2
section
variable {X : Cx} {C fI : Addr} {x0 q0 : Str}
/-- x0(e) as a value -/
def tNew (C : Addr) (ta : TA) : TE := fun σ H Q => ta σ H fun vs H1 => ∃ v, vs = [v] ∧ ∀ d e, H1 d = none → H1 e = none → d ≠ e → Q (.ref e) (upd (upd H1 d (.xd [(("at" : Str), v)])) e (ExV C (some d) e))
theorem pe_new {a : Expr} {ta : TA} {p pos : Pos} {k : Nat} (T : Tx X.K X.mg x0 q0 C fI) (hr : Room k X.A) (ha : PA X [a] ta) (hg : Gl X x0) (hdb : (x0 == ("__debug__" : Str)) = false := by decide)
    (he : starEach (a :: []) X.env = (false, eval a X.env) :: starEach [] X.env := by rfl) (hpl : (backTo pos (starEach [] X.env)).any (·.1) = false := by rfl) :
    PE X (.Call (.Name x0 p) [a] [] pos) (tNew C ta) := by
  refine ⟨fun pins s σ H Q I h => ?_⟩
  refine wpAny_Call_Name_kw (ld_glob I hg T.gC ?_ hdb)
  refine PySem.W.callWith_K (h₀ := X.base) I.ok.mod.kin T.kC (thn (ha.run pos pins s σ H _ I h) fun us s1 hh => ?_) he hpl
  obtain ⟨vs, H1, I1, r1, v, ev, q1⟩ := hh
  subst ev
  refine ⟨I1.kIn, ?_⟩
  cases r1 with
  | cons rv rn =>
    rename_i v' us'
    cases rn
    show wpAny _ _ (call (.ref C) [v']) _ _ _
    have hlim := I1.nolimit
    obtain ⟨hp, g, dr, tk, os⟩ := s1
    refine wpAny_call (made_run T I1.kIn hlim (by have := hr.dp; omega) fun h' tk' e d M => ?_)
    obtain ⟨oe, fv, hoe, hc, hd, hdat, h1⟩ := M.obj
    have hns := M.ns
    obtain ⟨G', g1, g2⟩ := restrict h' fun b => decide (b ≠ e)
    have gk : ∀ b, b ≠ e → G'.get? b = h'.get? b := fun b hb => g1 b (decide_eq_true hb)
    have ge : G'.get? e = none := g2 e (by simp)
    have old : ∀ b o, hp.get? b = some o → G'.get? b = some o := fun b o q => (gk b (Nat.ne_of_lt (Nat.lt_of_lt_of_le (Heap.lt_size q) M.new))).trans (M.keep b o q)
    have ob : ObjOk X.prog X.w (upd H1 d (.xd [(("at" : Str), v)])) G' d (.xd [(("at" : Str), v)]) :=
      ⟨_, hns.at (fun o q => (gk d M.dne).trans q), fun f => rel_at rv f⟩
    have J : Inv X pins σ (upd H1 d (.xd [(("at" : Str), v)])) ⟨G', g, dr, tk', os⟩ := I1.laid (t' := tk') old M.dbig ob
    have He : H1 e = none := I1.hok.fresh M.new
    have J2 := J.laidN (h' := h') (t' := tk') (o := ExV C (some d) e) (fun b o q => by
      by_cases hb : b = e
      · have q' : G'.get? b = some o := q
        rw [hb, ge] at q'; cases q'
      · exact (gk b hb).symm.trans q) ge (by rw [upd_ne (Ne.symm M.dne)]; exact He) (exV_ok hoe ⟨hc, hd⟩ ⟨fv, hdat⟩)
    exact ⟨.ref e, _, J2, rfl, q1 d e (I1.hok.fresh M.dbig) He M.dne⟩
/-- o.at, o such an error of one of these classes -/
def tGet (Cs : List Addr) (te : TE) : TE := fun σ H Q => te σ H fun x H1 => ∃ (a C d : Addr) (v : V), x = .ref a ∧ C ∈ Cs ∧ H1 a = some (ExV C (some d) a) ∧ H1 d = some (.xd [(("at" : Str), v)]) ∧ Q v H1
theorem pe_get {Cs : List Addr} {e : Expr} {te : TE} {pos : Pos} (hT : ∀ C, C ∈ Cs → ∃ x0 q0 fI, Tx X.K X.mg x0 q0 C fI) (he : PE X e te)
    (hb : attributeBase e "at" X.env (eval e X.env) = eval e X.env := by rfl) : PE X (.Attribute e "at" pos) (tGet Cs te) := by
  refine ⟨fun pins s σ H Q I h => ?_⟩
  refine attr_of hb (thn (he.run pins s σ H _ I h) fun u s1 hh => ?_)
  obtain ⟨x, H1, I1, rx, a, C, d, v, ex, hC, ea, ed, q⟩ := hh
  subst ex
  obtain rfl : u = Value.ref a := rx
  obtain ⟨x0, q0, fI, T⟩ := hT C hC
  obtain ⟨⟨oe, ha, hz, vs, hd⟩, _, _⟩ := I1.hok a _ ea
  have hx : ObjOk X.prog X.w H1 s1.heap d (.xd [(("at" : Str), v)]) := I1.hok d _ ed
  obtain ⟨mA, hns, hr⟩ := hx
  obtain ⟨od, ho, hl⟩ := lookIn_ns hns
  have l : List.lookup ("at" : Str) [(("at" : Str), v)] = some v := by simp [List.lookup]
  obtain ⟨u, hu, ru⟩ := RelO.some_of (v := v) (o := mA "at") (by rw [← l]; exact hr "at")
  have J : PySem.W.InstAt s1.heap a oe C (some od) := ⟨ha, hz.1, by unfold PySem.W.notCls; rw [hd] <;> rfl, by rw [hz.2]; exact ho⟩
  exact HandSPX.exc_get I1.kIn J T.ga T.gg T.exC (PySem.W.findObj_own T.hdC T.noN rfl (by rw [hl, hu])) (handed_of ru) ⟨v, H1, I1.tok _, ru, q⟩
end
end Eat
end Bx

namespace Bx
namespace Ekey
open PySem PySem.Spec PyProof.Rows L2
section
variable {X : Cx} {C fI : Addr} {x0 q0 : Str}
/-- x0(e) as a value -/
def tNew (C : Addr) (ta : TA) : TE := fun σ H Q => ta σ H fun vs H1 => ∃ v, vs = [v] ∧ ∀ d e, H1 d = none → H1 e = none → d ≠ e → Q (.ref e) (upd (upd H1 d (.xd [(("key" : Str), v)])) e (ExV C (some d) e))
theorem pe_new {a : Expr} {ta : TA} {p pos : Pos} {k : Nat} (T : Tx X.K X.mg x0 q0 C fI) (hr : Room k X.A) (ha : PA X [a] ta) (hg : Gl X x0) (hdb : (x0 == ("__debug__" : Str)) = false := by decide)
    (he : starEach (a :: []) X.env = (false, eval a X.env) :: starEach [] X.env := by rfl) (hpl : (backTo pos (starEach [] X.env)).any (·.1) = false := by rfl) :
    PE X (.Call (.Name x0 p) [a] [] pos) (tNew C ta) := by
  refine ⟨fun pins s σ H Q I h => ?_⟩
  refine wpAny_Call_Name_kw (ld_glob I hg T.gC ?_ hdb)
  refine PySem.W.callWith_K (h₀ := X.base) I.ok.mod.kin T.kC (thn (ha.run pos pins s σ H _ I h) fun us s1 hh => ?_) he hpl
  obtain ⟨vs, H1, I1, r1, v, ev, q1⟩ := hh
  subst ev
  refine ⟨I1.kIn, ?_⟩
  cases r1 with
  | cons rv rn =>
    rename_i v' us'
    cases rn
    show wpAny _ _ (call (.ref C) [v']) _ _ _
    have hlim := I1.nolimit
    obtain ⟨hp, g, dr, tk, os⟩ := s1
    refine wpAny_call (made_run T I1.kIn hlim (by have := hr.dp; omega) fun h' tk' e d M => ?_)
    obtain ⟨oe, fv, hoe, hc, hd, hdat, h1⟩ := M.obj
    have hns := M.ns
    obtain ⟨G', g1, g2⟩ := restrict h' fun b => decide (b ≠ e)
    have gk : ∀ b, b ≠ e → G'.get? b = h'.get? b := fun b hb => g1 b (decide_eq_true hb)
    have ge : G'.get? e = none := g2 e (by simp)
    have old : ∀ b o, hp.get? b = some o → G'.get? b = some o := fun b o q => (gk b (Nat.ne_of_lt (Nat.lt_of_lt_of_le (Heap.lt_size q) M.new))).trans (M.keep b o q)
    have ob : ObjOk X.prog X.w (upd H1 d (.xd [(("key" : Str), v)])) G' d (.xd [(("key" : Str), v)]) :=
      ⟨_, hns.at (fun o q => (gk d M.dne).trans q), fun f => rel_key rv f⟩
    have J : Inv X pins σ (upd H1 d (.xd [(("key" : Str), v)])) ⟨G', g, dr, tk', os⟩ := I1.laid (t' := tk') old M.dbig ob
    have He : H1 e = none := I1.hok.fresh M.new
    have J2 := J.laidN (h' := h') (t' := tk') (o := ExV C (some d) e) (fun b o q => by
      by_cases hb : b = e
      · have q' : G'.get? b = some o := q
        rw [hb, ge] at q'; cases q'
      · exact (gk b hb).symm.trans q) ge (by rw [upd_ne (Ne.symm M.dne)]; exact He) (exV_ok hoe ⟨hc, hd⟩ ⟨fv, hdat⟩)
    exact ⟨.ref e, _, J2, rfl, q1 d e (I1.hok.fresh M.dbig) He M.dne⟩
/-- o.key, o such an error of one of these classes -/
def tGet (Cs : List Addr) (te : TE) : TE := fun σ H Q => te σ H fun x H1 => ∃ (a C d : Addr) (v : V), x = .ref a ∧ C ∈ Cs ∧ H1 a = some (ExV C (some d) a) ∧ H1 d = some (.xd [(("key" : Str), v)]) ∧ Q v H1
theorem pe_get {Cs : List Addr} {e : Expr} {te : TE} {pos : Pos} (hT : ∀ C, C ∈ Cs → ∃ x0 q0 fI, Tx X.K X.mg x0 q0 C fI) (he : PE X e te)
    (hb : attributeBase e "key" X.env (eval e X.env) = eval e X.env := by rfl) : PE X (.Attribute e "key" pos) (tGet Cs te) := by
  refine ⟨fun pins s σ H Q I h => ?_⟩
  refine attr_of hb (thn (he.run pins s σ H _ I h) fun u s1 hh => ?_)
  obtain ⟨x, H1, I1, rx, a, C, d, v, ex, hC, ea, ed, q⟩ := hh
  subst ex
  obtain rfl : u = Value.ref a := rx
  obtain ⟨x0, q0, fI, T⟩ := hT C hC
  obtain ⟨⟨oe, ha, hz, vs, hd⟩, _, _⟩ := I1.hok a _ ea
  have hx : ObjOk X.prog X.w H1 s1.heap d (.xd [(("key" : Str), v)]) := I1.hok d _ ed
  obtain ⟨mA, hns, hr⟩ := hx
  obtain ⟨od, ho, hl⟩ := lookIn_ns hns
  have l : List.lookup ("key" : Str) [(("key" : Str), v)] = some v := by simp [List.lookup]
  obtain ⟨u, hu, ru⟩ := RelO.some_of (v := v) (o := mA "key") (by rw [← l]; exact hr "key")
  have J : PySem.W.InstAt s1.heap a oe C (some od) := ⟨ha, hz.1, by unfold PySem.W.notCls; rw [hd] <;> rfl, by rw [hz.2]; exact ho⟩
  exact HandSPX.exc_get I1.kIn J T.ga T.gg T.exC (PySem.W.findObj_own T.hdC T.noN rfl (by rw [hl, hu])) (handed_of ru) ⟨v, H1, I1.tok _, ru, q⟩
end
end Ekey
end Bx

namespace Bx
namespace Enumber
open PySem PySem.Spec PyProof.Rows L2
section
variable {X : Cx} {C fI : Addr} {x0 q0 : Str}
/-- x0(e) as a value -/
def tNew (C : Addr) (ta : TA) : TE := fun σ H Q => ta σ H fun vs H1 => ∃ v, vs = [v] ∧ ∀ d e, H1 d = none → H1 e = none → d ≠ e → Q (.ref e) (upd (upd H1 d (.xd [(("number" : Str), v)])) e (ExV C (some d) e))
theorem pe_new {a : Expr} {ta : TA} {p pos : Pos} {k : Nat} (T : Tx X.K X.mg x0 q0 C fI) (hr : Room k X.A) (ha : PA X [a] ta) (hg : Gl X x0) (hdb : (x0 == ("__debug__" : Str)) = false := by decide)
    (he : starEach (a :: []) X.env = (false, eval a X.env) :: starEach [] X.env := by rfl) (hpl : (backTo pos (starEach [] X.env)).any (·.1) = false := by rfl) :
    PE X (.Call (.Name x0 p) [a] [] pos) (tNew C ta) := by
  refine ⟨fun pins s σ H Q I h => ?_⟩
  refine wpAny_Call_Name_kw (ld_glob I hg T.gC ?_ hdb)
  refine PySem.W.callWith_K (h₀ := X.base) I.ok.mod.kin T.kC (thn (ha.run pos pins s σ H _ I h) fun us s1 hh => ?_) he hpl
  obtain ⟨vs, H1, I1, r1, v, ev, q1⟩ := hh
  subst ev
  refine ⟨I1.kIn, ?_⟩
  cases r1 with
  | cons rv rn =>
    rename_i v' us'
    cases rn
    show wpAny _ _ (call (.ref C) [v']) _ _ _
    have hlim := I1.nolimit
    obtain ⟨hp, g, dr, tk, os⟩ := s1
    refine wpAny_call (made_run T I1.kIn hlim (by have := hr.dp; omega) fun h' tk' e d M => ?_)
    obtain ⟨oe, fv, hoe, hc, hd, hdat, h1⟩ := M.obj
    have hns := M.ns
    obtain ⟨G', g1, g2⟩ := restrict h' fun b => decide (b ≠ e)
    have gk : ∀ b, b ≠ e → G'.get? b = h'.get? b := fun b hb => g1 b (decide_eq_true hb)
    have ge : G'.get? e = none := g2 e (by simp)
    have old : ∀ b o, hp.get? b = some o → G'.get? b = some o := fun b o q => (gk b (Nat.ne_of_lt (Nat.lt_of_lt_of_le (Heap.lt_size q) M.new))).trans (M.keep b o q)
    have ob : ObjOk X.prog X.w (upd H1 d (.xd [(("number" : Str), v)])) G' d (.xd [(("number" : Str), v)]) :=
      ⟨_, hns.at (fun o q => (gk d M.dne).trans q), fun f => rel_number rv f⟩
    have J : Inv X pins σ (upd H1 d (.xd [(("number" : Str), v)])) ⟨G', g, dr, tk', os⟩ := I1.laid (t' := tk') old M.dbig ob
    have He : H1 e = none := I1.hok.fresh M.new
    have J2 := J.laidN (h' := h') (t' := tk') (o := ExV C (some d) e) (fun b o q => by
      by_cases hb : b = e
      · have q' : G'.get? b = some o := q
        rw [hb, ge] at q'; cases q'
      · exact (gk b hb).symm.trans q) ge (by rw [upd_ne (Ne.symm M.dne)]; exact He) (exV_ok hoe ⟨hc, hd⟩ ⟨fv, hdat⟩)
    exact ⟨.ref e, _, J2, rfl, q1 d e (I1.hok.fresh M.dbig) He M.dne⟩
/-- o.number, o such an error of one of these classes -/
def tGet (Cs : List Addr) (te : TE) : TE := fun σ H Q => te σ H fun x H1 => ∃ (a C d : Addr) (v : V), x = .ref a ∧ C ∈ Cs ∧ H1 a = some (ExV C (some d) a) ∧ H1 d = some (.xd [(("number" : Str), v)]) ∧ Q v H1
theorem pe_get {Cs : List Addr} {e : Expr} {te : TE} {pos : Pos} (hT : ∀ C, C ∈ Cs → ∃ x0 q0 fI, Tx X.K X.mg x0 q0 C fI) (he : PE X e te)
    (hb : attributeBase e "number" X.env (eval e X.env) = eval e X.env := by rfl) : PE X (.Attribute e "number" pos) (tGet Cs te) := by
  refine ⟨fun pins s σ H Q I h => ?_⟩
  refine attr_of hb (thn (he.run pins s σ H _ I h) fun u s1 hh => ?_)
  obtain ⟨x, H1, I1, rx, a, C, d, v, ex, hC, ea, ed, q⟩ := hh
  subst ex
  obtain rfl : u = Value.ref a := rx
  obtain ⟨x0, q0, fI, T⟩ := hT C hC
  obtain ⟨⟨oe, ha, hz, vs, hd⟩, _, _⟩ := I1.hok a _ ea
  have hx : ObjOk X.prog X.w H1 s1.heap d (.xd [(("number" : Str), v)]) := I1.hok d _ ed
  obtain ⟨mA, hns, hr⟩ := hx
  obtain ⟨od, ho, hl⟩ := lookIn_ns hns
  have l : List.lookup ("number" : Str) [(("number" : Str), v)] = some v := by simp [List.lookup]
  obtain ⟨u, hu, ru⟩ := RelO.some_of (v := v) (o := mA "number") (by rw [← l]; exact hr "number")
  have J : PySem.W.InstAt s1.heap a oe C (some od) := ⟨ha, hz.1, by unfold PySem.W.notCls; rw [hd] <;> rfl, by rw [hz.2]; exact ho⟩
  exact HandSPX.exc_get I1.kIn J T.ga T.gg T.exC (PySem.W.findObj_own T.hdC T.noN rfl (by rw [hl, hu])) (handed_of ru) ⟨v, H1, I1.tok _, ru, q⟩
end
end Enumber
end Bx

namespace Bx
namespace Eword
open PySem PySem.Spec PyProof.Rows L2
section
variable {X : Cx} {C fI : Addr} {x0 q0 : Str}
/-- x0(e) as a value -/
def tNew (C : Addr) (ta : TA) : TE := fun σ H Q => ta σ H fun vs H1 => ∃ v, vs = [v] ∧ ∀ d e, H1 d = none → H1 e = none → d ≠ e → Q (.ref e) (upd (upd H1 d (.xd [(("word" : Str), v)])) e (ExV C (some d) e))
theorem pe_new {a : Expr} {ta : TA} {p pos : Pos} {k : Nat} (T : Tx X.K X.mg x0 q0 C fI) (hr : Room k X.A) (ha : PA X [a] ta) (hg : Gl X x0) (hdb : (x0 == ("__debug__" : Str)) = false := by decide)
    (he : starEach (a :: []) X.env = (false, eval a X.env) :: starEach [] X.env := by rfl) (hpl : (backTo pos (starEach [] X.env)).any (·.1) = false := by rfl) :
    PE X (.Call (.Name x0 p) [a] [] pos) (tNew C ta) := by
  refine ⟨fun pins s σ H Q I h => ?_⟩
  refine wpAny_Call_Name_kw (ld_glob I hg T.gC ?_ hdb)
  refine PySem.W.callWith_K (h₀ := X.base) I.ok.mod.kin T.kC (thn (ha.run pos pins s σ H _ I h) fun us s1 hh => ?_) he hpl
  obtain ⟨vs, H1, I1, r1, v, ev, q1⟩ := hh
  subst ev
  refine ⟨I1.kIn, ?_⟩
  cases r1 with
  | cons rv rn =>
    rename_i v' us'
    cases rn
    show wpAny _ _ (call (.ref C) [v']) _ _ _
    have hlim := I1.nolimit
    obtain ⟨hp, g, dr, tk, os⟩ := s1
    refine wpAny_call (made_run T I1.kIn hlim (by have := hr.dp; omega) fun h' tk' e d M => ?_)
    obtain ⟨oe, fv, hoe, hc, hd, hdat, h1⟩ := M.obj
    have hns := M.ns
    obtain ⟨G', g1, g2⟩ := restrict h' fun b => decide (b ≠ e)
    have gk : ∀ b, b ≠ e → G'.get? b = h'.get? b := fun b hb => g1 b (decide_eq_true hb)
    have ge : G'.get? e = none := g2 e (by simp)
    have old : ∀ b o, hp.get? b = some o → G'.get? b = some o := fun b o q => (gk b (Nat.ne_of_lt (Nat.lt_of_lt_of_le (Heap.lt_size q) M.new))).trans (M.keep b o q)
    have ob : ObjOk X.prog X.w (upd H1 d (.xd [(("word" : Str), v)])) G' d (.xd [(("word" : Str), v)]) :=
      ⟨_, hns.at (fun o q => (gk d M.dne).trans q), fun f => rel_word rv f⟩
    have J : Inv X pins σ (upd H1 d (.xd [(("word" : Str), v)])) ⟨G', g, dr, tk', os⟩ := I1.laid (t' := tk') old M.dbig ob
    have He : H1 e = none := I1.hok.fresh M.new
    have J2 := J.laidN (h' := h') (t' := tk') (o := ExV C (some d) e) (fun b o q => by
      by_cases hb : b = e
      · have q' : G'.get? b = some o := q
        rw [hb, ge] at q'; cases q'
      · exact (gk b hb).symm.trans q) ge (by rw [upd_ne (Ne.symm M.dne)]; exact He) (exV_ok hoe ⟨hc, hd⟩ ⟨fv, hdat⟩)
    exact ⟨.ref e, _, J2, rfl, q1 d e (I1.hok.fresh M.dbig) He M.dne⟩
/-- o.word, o such an error of one of these classes -/
def tGet (Cs : List Addr) (te : TE) : TE := fun σ H Q => te σ H fun x H1 => ∃ (a C d : Addr) (v : V), x = .ref a ∧ C ∈ Cs ∧ H1 a = some (ExV C (some d) a) ∧ H1 d = some (.xd [(("word" : Str), v)]) ∧ Q v H1
theorem pe_get {Cs : List Addr} {e : Expr} {te : TE} {pos : Pos} (hT : ∀ C, C ∈ Cs → ∃ x0 q0 fI, Tx X.K X.mg x0 q0 C fI) (he : PE X e te)
    (hb : attributeBase e "word" X.env (eval e X.env) = eval e X.env := by rfl) : PE X (.Attribute e "word" pos) (tGet Cs te) := by
  refine ⟨fun pins s σ H Q I h => ?_⟩
  refine attr_of hb (thn (he.run pins s σ H _ I h) fun u s1 hh => ?_)
  obtain ⟨x, H1, I1, rx, a, C, d, v, ex, hC, ea, ed, q⟩ := hh
  subst ex
  obtain rfl : u = Value.ref a := rx
  obtain ⟨x0, q0, fI, T⟩ := hT C hC
  obtain ⟨⟨oe, ha, hz, vs, hd⟩, _, _⟩ := I1.hok a _ ea
  have hx : ObjOk X.prog X.w H1 s1.heap d (.xd [(("word" : Str), v)]) := I1.hok d _ ed
  obtain ⟨mA, hns, hr⟩ := hx
  obtain ⟨od, ho, hl⟩ := lookIn_ns hns
  have l : List.lookup ("word" : Str) [(("word" : Str), v)] = some v := by simp [List.lookup]
  obtain ⟨u, hu, ru⟩ := RelO.some_of (v := v) (o := mA "word") (by rw [← l]; exact hr "word")
  have J : PySem.W.InstAt s1.heap a oe C (some od) := ⟨ha, hz.1, by unfold PySem.W.notCls; rw [hd] <;> rfl, by rw [hz.2]; exact ho⟩
  exact HandSPX.exc_get I1.kIn J T.ga T.gg T.exC (PySem.W.findObj_own T.hdC T.noN rfl (by rw [hl, hu])) (handed_of ru) ⟨v, H1, I1.tok _, ru, q⟩
end
end Eword
end Bx

namespace PySem
namespace EkX
open PySem.W PySem.Calls PyProof.Rows PySem.HandSPX
open Builtin Builtin.ObjectAttr
section
variable {M : Model} {A : Around} {E : Value → Shared → Prop} {h : Heap} {g : Array GenState} {d : Drawn} {t : Nat} {os : OsState}
variable {nm q : Str} {C N : Addr} {bs bm bmB : List Value} {hdct : Bool} {sn : List Str} {sub : List Value} {ab : Bool} {col : Option Bool} {dd : Option Addr} {k0 k1 k2 k3 k5 : Option Value} {B newId initId : String}
theorem check_newK (F : ExcBaseFacts B newId initId bmB) (hT : ∀ X : String, bm.contains (.type X) = bmB.contains (.type X)) {f : Str} {v : Value} {Q : Unit → Shared → Prop}
    (hC : h.get? C = some (excClassObj nm q C N bs bm hdct sn sub ab col dd k0 k1 k2 k3 k5 newId)) (hq : Q () ⟨h, g, d, t, os⟩) : wpAny M A (checkBuiltinCall newId ⟨[.ref C], [(f, v)]⟩) Q E ⟨h, g, d, t, os⟩ := by
  have hcont : (Value.ref C :: bm).contains (.type B) = true := by rw [List.contains_cons, hT, F.hasB, Bool.or_true]
  have hstar := F.noStar
  simp only [checkBuiltinCall, F.newKind, F.newSplit, F.newRow]
  repeat (first | refine wpAny_loadPart_at hC ?_ | (refine wpAny_isSubtype_exc hC ?_; rw [hcont]) | refine wpAny_staticBase_exc hC ?_ | refine wpAny_madeBy_exc hC ?_ | simp only [bne_self_eq_false, Bool.false_eq_true, if_false] | wp_step)
  exact hq
theorem check_typeK {f : Str} {v : Value} {Q : Unit → Shared → Prop} (hC : h.get? C = some (excClassObj nm q C N bs bm hdct sn sub ab col dd k0 k1 k2 k3 k5 newId))
    (hq : Q () ⟨h, g, d, t, os⟩) : wpAny M A (checkBuiltinCall "type.__call__" ⟨[.ref C], [(f, v)]⟩) Q E ⟨h, g, d, t, os⟩ := by
  have f3 := tc_sub
  have hT : (⟨h, g, d, t, os⟩ : Shared).TypeIs (.ref C) "type" := ⟨_, hC, rfl⟩
  simp only [checkBuiltinCall, tc_kind, tc_split]
  repeat (any_goals (first | assumption | with_reducible refine wpAny_loadPart_at hC ?_ | with_reducible refine wpAny_onRaise ?_ | with_reducible refine wpAny_map ?_ | wp_step))
end
section
variable {prog : Program} {w : World} {A : Around} {E : Value → Shared → Prop} {R : Result → Shared → Prop} {h : Heap} {g : Array GenState} {d : Drawn} {t : Nat} {os : OsState}
variable {nm q : Str} {C N : Addr} {bs bm bmB : List Value} {hdct : Bool} {sn : List Str} {sub : List Value} {ab : Bool} {col : Option Bool} {dd : Option Addr} {k0 k1 k2 k3 k5 : Option Value} {B newId initId : String}
theorem new_ownK (F : ExcBaseFacts B newId initId bmB) (hT : ∀ X : String, bm.contains (.type X) = bmB.contains (.type X)) {f : Str} {v : Value}
    (hC : h.get? C = some (excClassObj nm q C N bs bm hdct sn sub ab col dd k0 k1 k2 k3 k5 newId))
    (hq : R (.ok (.ret (.ref (h.objs.size + 1)))) ⟨(h.push { cls := .type "tuple", data := .seq #[] }).push
      { cls := .ref C, data := .fields #[.ref h.objs.size, .none, .none, .none, .bool false, .none] }, g, d, t, os⟩) :
    codeAny (model prog w) A (.builtin newId ⟨[.ref C], [(f, v)]⟩) R ⟨h, g, d, t, os⟩ := by
  have hends := F.ends
  have hcB : (Value.ref C :: bm).contains (.type B) = true := by rw [List.contains_cons, hT, F.hasB, Bool.or_true]
  have hcA : (Value.ref C :: bm).contains (.type "AttributeError") = false := by rw [List.contains_cons, hT, F.noAttr]; rfl
  have hcN : (Value.ref C :: bm).contains (.type "NameError") = false := by rw [List.contains_cons, hT, F.noName]; rfl
  have hrest : ([] : List Value).length ≤ sizeLine := Nat.zero_le _
  refine codeAny_builtinAt F.entry ?_
  unfold Builtin.«BaseException.__new__»
  refine PyProof.Rows.wpAt_bind ?_
  show wpAt _ _ _ (stack >>= _) _ _ _
  refine PyProof.Rows.wpAt_bind (PyProof.Rows.wpAt_stack fun p below => PyProof.Rows.wpAt_of_any ?_)
  wp_walk
  refine PyProof.Rows.wpAt_of_any ?_
  rw [F.owner]
  repeat (first | with_reducible refine wpAny_madeHere_exc F.canon hC ?_ | with_reducible refine wpAny_loadPart_at hC ?_ | (with_reducible refine wpAny_isSubtype_exc hC ?_; first | rw [hcB] | rw [hcA] | rw [hcN]) | wp_step)
  show R _ _
  rw [Heap.size_push]
  exact hq
theorem type_call_ownK (F : ExcBaseFacts B newId initId bmB) (hT : ∀ X : String, bm.contains (.type X) = bmB.contains (.type X)) {f : Str} {v : Value} {fI : Addr} {Q : Fin → Shared → Prop}
    (hC : h.get? C = some (excClassObj nm q C N bs bm hdct sn sub ab col dd k0 k1 k2 k3 k5 newId))
    (hi : W.Looks (model prog w) h (typeLookup (.ref C) "__init__") (some (.ref fI))) (hb : ∀ self, W.Looks (model prog w) h (bindSpecial (.ref fI) self) (.ref fI, [self]))
    (hq : codeAny (model prog w) A (.call (.ref fI) ⟨[.ref (h.objs.size + 1)], [(f, v)]⟩)
      (fun r s' => match r with | .ok (.ret v) => v = .none ∧ Q (.done (.ret (.ref (h.objs.size + 1)))) s' | .ok _ => False | .error e => E e s')
      ⟨(h.push (W.kdv_tup [])).push (excO C h.objs.size), g, d, t, os⟩) :
    wpAny (model prog w) A (Builtin.«type.__call__» ⟨[.ref C], [(f, v)]⟩) Q E ⟨h, g, d, t, os⟩ := by
  repeat (first | with_reducible refine wpAny_loadPart_at hC ?_ | with_reducible refine wpAny_madeBy_exc hC ?_ | wp_step)
  refine codeAny_call_builtin_code (Code.quiet_builtin _ F.quiet) (check_newK F hT hC ?_)
  refine new_ownK F hT hC ?_
  show wpAny _ _ _ _ _ _
  have k : ∀ b o, h.get? b = some o → ((h.push (W.kdv_tup [])).push (excO C h.objs.size)).get? b = some o := fun b o e => Heap.get?_push_of_some _ (Heap.get?_push_of_some _ e)
  have hC₁ := k _ _ hC
  have hget : ((h.push (W.kdv_tup [])).push (excO C h.objs.size)).get? (h.objs.size + 1) = some (excO C h.objs.size) := by heap_get
  have hcC : (Value.ref C :: bm).contains (.ref C) = true := by simp
  have i1 := hi.keeps k
  have b1 := (hb (.ref (h.objs.size + 1))).keeps k
  unfold isInstance
  repeat (first | with_reducible refine wpAny_loadPart_at hget ?_ | (with_reducible refine wpAny_isSubtype_exc hC₁ ?_; rw [hcC]) | wp_step)
  show wpAny _ _ (typeLookup (.ref C) _) _ _ _
  refine i1.at ?_
  refine wpAny_holding (wpAny_bind (b1.at ?_))
  refine wpAny_bind (wpAny_call (codeAny_mono hq fun r s' z => ?_))
  rcases r with e | (v | _ | _ | _) <;> first | exact z | exact z.elim | skip
  obtain ⟨rfl, z⟩ := z
  first
    | exact wpAny_pure (wpAny_pure z)
    | (wp_walk; exact z)
theorem call_ownK (F : ExcBaseFacts B newId initId bmB) (hT : ∀ X : String, bm.contains (.type X) = bmB.contains (.type X)) {f : Str} {v : Value} {fI : Addr}
    (hC : h.get? C = some (excClassObj nm q C N bs bm hdct sn sub ab col dd k0 k1 k2 k3 k5 newId))
    (hi : W.Looks (model prog w) h (typeLookup (.ref C) "__init__") (some (.ref fI))) (hb : ∀ self, W.Looks (model prog w) h (bindSpecial (.ref fI) self) (.ref fI, [self]))
    (hq : codeAny (model prog w) (A.under (.builtin "type.__call__" ⟨[.ref C], [(f, v)]⟩)) (.call (.ref fI) ⟨[.ref (h.objs.size + 1)], [(f, v)]⟩) (W.InitBack (h.objs.size + 1) R)
      ⟨(h.push (W.kdv_tup [])).push (excO C h.objs.size), g, d, t, os⟩) :
    codeAny (model prog w) A (.call (.ref C) ⟨[], [(f, v)]⟩) R ⟨h, g, d, t, os⟩ := by
  have f1 := tc_lookup
  have f2 := tc_bind (.ref C)
  have hTy : (⟨h, g, d, t, os⟩ : Shared).TypeIs (.ref C) "type" := ⟨_, hC, rfl⟩
  refine codeAny_of_tree ?_
  show wpAny _ _ (callAny (.ref C) _) _ _ _
  repeat (any_goals (first | assumption | with_reducible refine wpAny_loadPart_at hC ?_ | wp_step))
  refine ⟨rfl, ?_⟩
  refine codeAny_call_builtin_at (Code.quiet_builtin _ (by decide +kernel)) entry_typeCall (check_typeK hC (type_call_ownK F hT hC hi hb ?_))
  refine codeAny_mono hq fun r s' z => ?_
  rcases r with e | (v | _ | _ | _) <;> exact z
end
end EkX
end PySem

namespace Bx
namespace Eat
open PySem PySem.W PySem.Calls PyProof.Rows PySem.HandSPX
section
variable {prog : Program} {w : World} {A : Around} {E : Value → Shared → Prop} {R : Result → Shared → Prop} {s : Shared} {K : Frag} {mg : Str → Option Value} {x0 q0 : Str} {C fI : Addr}
theorem init_runK (T : Tx K mg x0 q0 C fI) {x t0 : Addr} {v : Value} (X : K.In s.heap) (hlim : s.heap.NoLimit) (hx : s.heap.get? x = some (excO C t0)) (hnx : K.lookup x = none) (hroom : A.depth < recursionLimit)
    (hq : ∀ h' tk dx, InitEnd s.heap h' x C dx t0 v → R (.ok (.ret .none)) { s with heap := h', toks := tk }) :
    codeAny (model prog w) A (.call (.ref fI) ⟨[.ref x], [(("at" : Str), v)]⟩) R s := by
  obtain ⟨oc, od, doc, pm, an, cdv, ct, osl, p1, p2, q1, q2, q3, q4, ho, hcd⟩ := T.fn
  obtain ⟨nm, q, N, bs, bm, sn, sub, ab, col, dd, k0, k1, k2, k3, k5, hC, hbm⟩ := T.cls
  have hcl : clsIn K C = some { name := nm, bases := bs, mro := .ref C :: bm, ns := N, qualname := q, hasDict := true, slotNames := sn, subclasses := sub, abstract := ab, collection := col, hasDel := false } := by unfold clsIn; rw [hC] <;> rfl
  refine Att.call_fn (binds := [("self", .ref x), ("at", v)]) X hlim ho hcd hroom (BindsTo.of_eq (by first | rfl | with_unfolding_all rfl)) (by first | rfl | decide | with_unfolding_all rfl) (fun s₁ IC => ?_) rfl rfl rfl
  obtain ⟨h₁, tk₁, rfl⟩ := IC.toInCall.same
  have k : ∀ b o, s.heap.get? b = some o → h₁.get? b = some o := IC.toInCall.keep
  have hn := IC.toInCall.ns
  have hxL : s.heap.objs.size ≠ x := Nat.ne_of_gt (Heap.lt_size hx)
  have X₁ : K.In h₁ := X.keeps k
  have hx₁ := k _ _ hx
  show wpAny _ _ (execs _ _) _ _ _
  refine wpAny_execs_cons (plainObj_wpAny_Assign_Attribute ?_)
  refine slot_ld (v := v) hn (by first | rfl | with_unfolding_all rfl | kernel_rfl) (slot_ld (v := .ref x) hn (by first | rfl | with_unfolding_all rfl | kernel_rfl) ?_)
  refine set_plain X₁ (ox := excO C t0) (od := none) ⟨hx₁, rfl, rfl, trivial⟩ T.sa ?_
  refine first_store X₁ hx₁ hcl (show exRow (.ref C :: bm) = true from hbm) rfl T.noN (fun h₃ tk₃ dx k₃ dn dne hx₃ hn₃ => ?_)
  show wpAny _ _ (execs _ _) _ _ _
  have z : s.heap.objs.size < h₁.objs.size := hn.lt
  exact wpAny_execs_nil (hq h₃ tk₃ dx ⟨fun b o hb e => k₃ b o hb (k b o e), hx₃, Nat.le_of_lt (Nat.lt_of_lt_of_le z dn), dne, hn₃⟩)
theorem made_runK (T : Tx K mg x0 q0 C fI) {v : Value} (X : K.In s.heap) (hlim : s.heap.NoLimit) (hroom : A.depth + 1 < recursionLimit)
    (hq : ∀ h' tk e d, Made s.heap h' e C d v → R (.ok (.ret (.ref e))) { s with heap := h', toks := tk }) :
    codeAny (model prog w) A (.call (.ref C) ⟨[], [(("at" : Str), v)]⟩) R s := by
  obtain ⟨nm, q, N, bs, bm, sn, sub, ab, col, dd, k0, k1, k2, k3, k5, hC, hbm⟩ := T.cls
  obtain ⟨hp, g, dr, tk, os⟩ := s
  have k : ∀ b o, hp.get? b = some o → ((hp.push (kdv_tup [])).push (excO C hp.objs.size)).get? b = some o := fun b o e => Heap.get?_push_of_some _ (Heap.get?_push_of_some _ e)
  have hget : ((hp.push (kdv_tup [])).push (excO C hp.objs.size)).get? (hp.objs.size + 1) = some (excO C hp.objs.size) := by heap_get
  have hnx : K.lookup (hp.objs.size + 1) = none := by
    cases e : K.lookup (hp.objs.size + 1) with
    | none => rfl
    | some o =>
      have z : hp.get? (hp.objs.size + 1) = some o := X _ _ e
      exact absurd (Nat.lt_of_succ_lt (Heap.lt_size z)) (Nat.lt_irrefl _)
  refine EkX.call_ownK F.excBase_Exception (fun X => exRow_has X bm hbm) (X _ _ hC) (looks_findIn X T.iC) (fun self => bind_fn X self T.tC) ?_
  refine init_runK (s := ⟨(hp.push (kdv_tup [])).push (excO C hp.objs.size), g, dr, tk, os⟩) T (X.keeps k) (hlim.keeps k) hget hnx ?_ fun h' tk' dx ⟨k', hx, dn, dne, hns⟩ => ?_
  · show A.depth + 1 < recursionLimit
    exact hroom
  · have old : ∀ b o, hp.get? b = some o → h'.get? b = some o := fun b o e => k' b o (Nat.ne_of_lt (Nat.lt_succ_of_lt (Heap.lt_size e))) (k b o e)
    have z : hp.objs.size + 1 + 1 ≤ dx := by
      first
        | (simpa only [Heap.size_push] using dn)
        | exact dn
        | (have q := dn; rw [Heap.size_push, Heap.size_push] at q; exact q)
    exact ⟨rfl, hq h' tk' (hp.objs.size + 1) dx ⟨old, Nat.le_succ _, ⟨_, _, hx, rfl, rfl, rfl, rfl⟩, Nat.le_trans (Nat.le_trans (Nat.le_succ _) (Nat.le_succ _)) z, dne, hns⟩⟩
end
open PySem.Spec L2
section
variable {X : Cx} {C fI : Addr} {x0 q0 : Str}
/-- x0(at=e) as a value -/
theorem pe_newK {kws : List Keyword} {tk : TA} {p pos : Pos} {k : Nat} (T : Tx X.K X.mg x0 q0 C fI) (hr : Room k X.A) (hkw : PK X kws tk) (hg : Gl X x0)
    (hall : (backToKw pos (keywordEach kws X.env)).all (·.1.isSome) = true := by rfl) (hks : (backToKw pos (keywordEach kws X.env)).filterMap (·.1) = [("at" : Str)] := by rfl)
    (hdb : (x0 == ("__debug__" : Str)) = false := by decide) (hpl : ((backTo pos (starEach [] X.env)).any (·.1) || (backToKw pos (keywordEach kws X.env)).any (·.1.isNone)) = false := by rfl) :
    PE X (.Call (.Name x0 p) [] kws pos) (tNew C tk) := by
  refine ⟨fun pins s σ H Q I h => ?_⟩
  refine wpAny_Call_Name_kw (ld_glob I hg T.gC ?_ hdb)
  refine PySem.W.callWith_KW0 (h₀ := X.base) I.ok.mod.kin T.kC hall ?_ hpl
  refine thn (hkw.run pos pins s σ H _ I h) fun ws s1 ⟨vs, H1, I1, r1, v, ev, q1⟩ => ⟨I1.kIn, ?_⟩
  rw [hks]
  subst ev
  cases r1 with
  | cons rv rn =>
    cases rn
    rename_i v' _
    show wpAny _ _ (call (.ref C) [] [(("at" : Str), v')]) _ _ _
    have hlim := I1.nolimit
    obtain ⟨hp, g, dr, tk, os⟩ := s1
    refine wpAny_call (made_runK T I1.kIn hlim (by have := hr.dp; omega) fun h' tk' e d M => ?_)
    obtain ⟨oe, fv, hoe, hc, hd, hdat, h1⟩ := M.obj
    have hns := M.ns
    obtain ⟨G', g1, g2⟩ := restrict h' fun b => decide (b ≠ e)
    have gk : ∀ b, b ≠ e → G'.get? b = h'.get? b := fun b hb => g1 b (decide_eq_true hb)
    have ge : G'.get? e = none := g2 e (by simp)
    have old : ∀ b o, hp.get? b = some o → G'.get? b = some o := fun b o q => (gk b (Nat.ne_of_lt (Nat.lt_of_lt_of_le (Heap.lt_size q) M.new))).trans (M.keep b o q)
    have ob : ObjOk X.prog X.w (upd H1 d (.xd [(("at" : Str), v)])) G' d (.xd [(("at" : Str), v)]) :=
      ⟨_, hns.at (fun o q => (gk d M.dne).trans q), fun f => rel_at rv f⟩
    have J : Inv X pins σ (upd H1 d (.xd [(("at" : Str), v)])) ⟨G', g, dr, tk', os⟩ := I1.laid (t' := tk') old M.dbig ob
    have He : H1 e = none := I1.hok.fresh M.new
    have J2 := J.laidN (h' := h') (t' := tk') (o := ExV C (some d) e) (fun b o q => by
      by_cases hb : b = e
      · have q' : G'.get? b = some o := q
        rw [hb, ge] at q'; cases q'
      · exact (gk b hb).symm.trans q) ge (by rw [upd_ne (Ne.symm M.dne)]; exact He) (exV_ok hoe ⟨hc, hd⟩ ⟨fv, hdat⟩)
    exact ⟨.ref e, _, J2, rfl, q1 d e (I1.hok.fresh M.dbig) He M.dne⟩
end
end Eat
end Bx

namespace Bx
namespace Ekey
open PySem PySem.W PySem.Calls PyProof.Rows PySem.HandSPX
section
variable {prog : Program} {w : World} {A : Around} {E : Value → Shared → Prop} {R : Result → Shared → Prop} {s : Shared} {K : Frag} {mg : Str → Option Value} {x0 q0 : Str} {C fI : Addr}
theorem init_runK (T : Tx K mg x0 q0 C fI) {x t0 : Addr} {v : Value} (X : K.In s.heap) (hlim : s.heap.NoLimit) (hx : s.heap.get? x = some (excO C t0)) (hnx : K.lookup x = none) (hroom : A.depth < recursionLimit)
    (hq : ∀ h' tk dx, InitEnd s.heap h' x C dx t0 v → R (.ok (.ret .none)) { s with heap := h', toks := tk }) :
    codeAny (model prog w) A (.call (.ref fI) ⟨[.ref x], [(("key" : Str), v)]⟩) R s := by
  obtain ⟨oc, od, doc, pm, an, cdv, ct, osl, p1, p2, q1, q2, q3, q4, ho, hcd⟩ := T.fn
  obtain ⟨nm, q, N, bs, bm, sn, sub, ab, col, dd, k0, k1, k2, k3, k5, hC, hbm⟩ := T.cls
  have hcl : clsIn K C = some { name := nm, bases := bs, mro := .ref C :: bm, ns := N, qualname := q, hasDict := true, slotNames := sn, subclasses := sub, abstract := ab, collection := col, hasDel := false } := by unfold clsIn; rw [hC] <;> rfl
  refine Att.call_fn (binds := [("self", .ref x), ("key", v)]) X hlim ho hcd hroom (BindsTo.of_eq (by first | rfl | with_unfolding_all rfl)) (by first | rfl | decide | with_unfolding_all rfl) (fun s₁ IC => ?_) rfl rfl rfl
  obtain ⟨h₁, tk₁, rfl⟩ := IC.toInCall.same
  have k : ∀ b o, s.heap.get? b = some o → h₁.get? b = some o := IC.toInCall.keep
  have hn := IC.toInCall.ns
  have hxL : s.heap.objs.size ≠ x := Nat.ne_of_gt (Heap.lt_size hx)
  have X₁ : K.In h₁ := X.keeps k
  have hx₁ := k _ _ hx
  show wpAny _ _ (execs _ _) _ _ _
  refine wpAny_execs_cons (plainObj_wpAny_Assign_Attribute ?_)
  refine slot_ld (v := v) hn (by first | rfl | with_unfolding_all rfl | kernel_rfl) (slot_ld (v := .ref x) hn (by first | rfl | with_unfolding_all rfl | kernel_rfl) ?_)
  refine set_plain X₁ (ox := excO C t0) (od := none) ⟨hx₁, rfl, rfl, trivial⟩ T.sa ?_
  refine first_store X₁ hx₁ hcl (show exRow (.ref C :: bm) = true from hbm) rfl T.noN (fun h₃ tk₃ dx k₃ dn dne hx₃ hn₃ => ?_)
  show wpAny _ _ (execs _ _) _ _ _
  have z : s.heap.objs.size < h₁.objs.size := hn.lt
  exact wpAny_execs_nil (hq h₃ tk₃ dx ⟨fun b o hb e => k₃ b o hb (k b o e), hx₃, Nat.le_of_lt (Nat.lt_of_lt_of_le z dn), dne, hn₃⟩)
theorem made_runK (T : Tx K mg x0 q0 C fI) {v : Value} (X : K.In s.heap) (hlim : s.heap.NoLimit) (hroom : A.depth + 1 < recursionLimit)
    (hq : ∀ h' tk e d, Made s.heap h' e C d v → R (.ok (.ret (.ref e))) { s with heap := h', toks := tk }) :
    codeAny (model prog w) A (.call (.ref C) ⟨[], [(("key" : Str), v)]⟩) R s := by
  obtain ⟨nm, q, N, bs, bm, sn, sub, ab, col, dd, k0, k1, k2, k3, k5, hC, hbm⟩ := T.cls
  obtain ⟨hp, g, dr, tk, os⟩ := s
  have k : ∀ b o, hp.get? b = some o → ((hp.push (kdv_tup [])).push (excO C hp.objs.size)).get? b = some o := fun b o e => Heap.get?_push_of_some _ (Heap.get?_push_of_some _ e)
  have hget : ((hp.push (kdv_tup [])).push (excO C hp.objs.size)).get? (hp.objs.size + 1) = some (excO C hp.objs.size) := by heap_get
  have hnx : K.lookup (hp.objs.size + 1) = none := by
    cases e : K.lookup (hp.objs.size + 1) with
    | none => rfl
    | some o =>
      have z : hp.get? (hp.objs.size + 1) = some o := X _ _ e
      exact absurd (Nat.lt_of_succ_lt (Heap.lt_size z)) (Nat.lt_irrefl _)
  refine EkX.call_ownK F.excBase_Exception (fun X => exRow_has X bm hbm) (X _ _ hC) (looks_findIn X T.iC) (fun self => bind_fn X self T.tC) ?_
  refine init_runK (s := ⟨(hp.push (kdv_tup [])).push (excO C hp.objs.size), g, dr, tk, os⟩) T (X.keeps k) (hlim.keeps k) hget hnx ?_ fun h' tk' dx ⟨k', hx, dn, dne, hns⟩ => ?_
  · show A.depth + 1 < recursionLimit
    exact hroom
  · have old : ∀ b o, hp.get? b = some o → h'.get? b = some o := fun b o e => k' b o (Nat.ne_of_lt (Nat.lt_succ_of_lt (Heap.lt_size e))) (k b o e)
    have z : hp.objs.size + 1 + 1 ≤ dx := by
      first
        | (simpa only [Heap.size_push] using dn)
        | exact dn
        | (have q := dn; rw [Heap.size_push, Heap.size_push] at q; exact q)
    exact ⟨rfl, hq h' tk' (hp.objs.size + 1) dx ⟨old, Nat.le_succ _, ⟨_, _, hx, rfl, rfl, rfl, rfl⟩, Nat.le_trans (Nat.le_trans (Nat.le_succ _) (Nat.le_succ _)) z, dne, hns⟩⟩
end
open PySem.Spec L2
section
variable {X : Cx} {C fI : Addr} {x0 q0 : Str}
/-- x0(key=e) as a value -/
theorem pe_newK {kws : List Keyword} {tk : TA} {p pos : Pos} {k : Nat} (T : Tx X.K X.mg x0 q0 C fI) (hr : Room k X.A) (hkw : PK X kws tk) (hg : Gl X x0)
    (hall : (backToKw pos (keywordEach kws X.env)).all (·.1.isSome) = true := by rfl) (hks : (backToKw pos (keywordEach kws X.env)).filterMap (·.1) = [("key" : Str)] := by rfl)
    (hdb : (x0 == ("__debug__" : Str)) = false := by decide) (hpl : ((backTo pos (starEach [] X.env)).any (·.1) || (backToKw pos (keywordEach kws X.env)).any (·.1.isNone)) = false := by rfl) :
    PE X (.Call (.Name x0 p) [] kws pos) (tNew C tk) := by
  refine ⟨fun pins s σ H Q I h => ?_⟩
  refine wpAny_Call_Name_kw (ld_glob I hg T.gC ?_ hdb)
  refine PySem.W.callWith_KW0 (h₀ := X.base) I.ok.mod.kin T.kC hall ?_ hpl
  refine thn (hkw.run pos pins s σ H _ I h) fun ws s1 ⟨vs, H1, I1, r1, v, ev, q1⟩ => ⟨I1.kIn, ?_⟩
  rw [hks]
  subst ev
  cases r1 with
  | cons rv rn =>
    cases rn
    rename_i v' _
    show wpAny _ _ (call (.ref C) [] [(("key" : Str), v')]) _ _ _
    have hlim := I1.nolimit
    obtain ⟨hp, g, dr, tk, os⟩ := s1
    refine wpAny_call (made_runK T I1.kIn hlim (by have := hr.dp; omega) fun h' tk' e d M => ?_)
    obtain ⟨oe, fv, hoe, hc, hd, hdat, h1⟩ := M.obj
    have hns := M.ns
    obtain ⟨G', g1, g2⟩ := restrict h' fun b => decide (b ≠ e)
    have gk : ∀ b, b ≠ e → G'.get? b = h'.get? b := fun b hb => g1 b (decide_eq_true hb)
    have ge : G'.get? e = none := g2 e (by simp)
    have old : ∀ b o, hp.get? b = some o → G'.get? b = some o := fun b o q => (gk b (Nat.ne_of_lt (Nat.lt_of_lt_of_le (Heap.lt_size q) M.new))).trans (M.keep b o q)
    have ob : ObjOk X.prog X.w (upd H1 d (.xd [(("key" : Str), v)])) G' d (.xd [(("key" : Str), v)]) :=
      ⟨_, hns.at (fun o q => (gk d M.dne).trans q), fun f => rel_key rv f⟩
    have J : Inv X pins σ (upd H1 d (.xd [(("key" : Str), v)])) ⟨G', g, dr, tk', os⟩ := I1.laid (t' := tk') old M.dbig ob
    have He : H1 e = none := I1.hok.fresh M.new
    have J2 := J.laidN (h' := h') (t' := tk') (o := ExV C (some d) e) (fun b o q => by
      by_cases hb : b = e
      · have q' : G'.get? b = some o := q
        rw [hb, ge] at q'; cases q'
      · exact (gk b hb).symm.trans q) ge (by rw [upd_ne (Ne.symm M.dne)]; exact He) (exV_ok hoe ⟨hc, hd⟩ ⟨fv, hdat⟩)
    exact ⟨.ref e, _, J2, rfl, q1 d e (I1.hok.fresh M.dbig) He M.dne⟩
end
end Ekey
end Bx

namespace Bx
namespace Enumber
open PySem PySem.W PySem.Calls PyProof.Rows PySem.HandSPX
section
variable {prog : Program} {w : World} {A : Around} {E : Value → Shared → Prop} {R : Result → Shared → Prop} {s : Shared} {K : Frag} {mg : Str → Option Value} {x0 q0 : Str} {C fI : Addr}
theorem init_runK (T : Tx K mg x0 q0 C fI) {x t0 : Addr} {v : Value} (X : K.In s.heap) (hlim : s.heap.NoLimit) (hx : s.heap.get? x = some (excO C t0)) (hnx : K.lookup x = none) (hroom : A.depth < recursionLimit)
    (hq : ∀ h' tk dx, InitEnd s.heap h' x C dx t0 v → R (.ok (.ret .none)) { s with heap := h', toks := tk }) :
    codeAny (model prog w) A (.call (.ref fI) ⟨[.ref x], [(("number" : Str), v)]⟩) R s := by
  obtain ⟨oc, od, doc, pm, an, cdv, ct, osl, p1, p2, q1, q2, q3, q4, ho, hcd⟩ := T.fn
  obtain ⟨nm, q, N, bs, bm, sn, sub, ab, col, dd, k0, k1, k2, k3, k5, hC, hbm⟩ := T.cls
  have hcl : clsIn K C = some { name := nm, bases := bs, mro := .ref C :: bm, ns := N, qualname := q, hasDict := true, slotNames := sn, subclasses := sub, abstract := ab, collection := col, hasDel := false } := by unfold clsIn; rw [hC] <;> rfl
  refine Att.call_fn (binds := [("self", .ref x), ("number", v)]) X hlim ho hcd hroom (BindsTo.of_eq (by first | rfl | with_unfolding_all rfl)) (by first | rfl | decide | with_unfolding_all rfl) (fun s₁ IC => ?_) rfl rfl rfl
  obtain ⟨h₁, tk₁, rfl⟩ := IC.toInCall.same
  have k : ∀ b o, s.heap.get? b = some o → h₁.get? b = some o := IC.toInCall.keep
  have hn := IC.toInCall.ns
  have hxL : s.heap.objs.size ≠ x := Nat.ne_of_gt (Heap.lt_size hx)
  have X₁ : K.In h₁ := X.keeps k
  have hx₁ := k _ _ hx
  show wpAny _ _ (execs _ _) _ _ _
  refine wpAny_execs_cons (plainObj_wpAny_Assign_Attribute ?_)
  refine slot_ld (v := v) hn (by first | rfl | with_unfolding_all rfl | kernel_rfl) (slot_ld (v := .ref x) hn (by first | rfl | with_unfolding_all rfl | kernel_rfl) ?_)
  refine set_plain X₁ (ox := excO C t0) (od := none) ⟨hx₁, rfl, rfl, trivial⟩ T.sa ?_
  refine first_store X₁ hx₁ hcl (show exRow (.ref C :: bm) = true from hbm) rfl T.noN (fun h₃ tk₃ dx k₃ dn dne hx₃ hn₃ => ?_)
  show wpAny _ _ (execs _ _) _ _ _
  have z : s.heap.objs.size < h₁.objs.size := hn.lt
  exact wpAny_execs_nil (hq h₃ tk₃ dx ⟨fun b o hb e => k₃ b o hb (k b o e), hx₃, Nat.le_of_lt (Nat.lt_of_lt_of_le z dn), dne, hn₃⟩)
theorem made_runK (T : Tx K mg x0 q0 C fI) {v : Value} (X : K.In s.heap) (hlim : s.heap.NoLimit) (hroom : A.depth + 1 < recursionLimit)
    (hq : ∀ h' tk e d, Made s.heap h' e C d v → R (.ok (.ret (.ref e))) { s with heap := h', toks := tk }) :
    codeAny (model prog w) A (.call (.ref C) ⟨[], [(("number" : Str), v)]⟩) R s := by
  obtain ⟨nm, q, N, bs, bm, sn, sub, ab, col, dd, k0, k1, k2, k3, k5, hC, hbm⟩ := T.cls
  obtain ⟨hp, g, dr, tk, os⟩ := s
  have k : ∀ b o, hp.get? b = some o → ((hp.push (kdv_tup [])).push (excO C hp.objs.size)).get? b = some o := fun b o e => Heap.get?_push_of_some _ (Heap.get?_push_of_some _ e)
  have hget : ((hp.push (kdv_tup [])).push (excO C hp.objs.size)).get? (hp.objs.size + 1) = some (excO C hp.objs.size) := by heap_get
  have hnx : K.lookup (hp.objs.size + 1) = none := by
    cases e : K.lookup (hp.objs.size + 1) with
    | none => rfl
    | some o =>
      have z : hp.get? (hp.objs.size + 1) = some o := X _ _ e
      exact absurd (Nat.lt_of_succ_lt (Heap.lt_size z)) (Nat.lt_irrefl _)
  refine EkX.call_ownK F.excBase_Exception (fun X => exRow_has X bm hbm) (X _ _ hC) (looks_findIn X T.iC) (fun self => bind_fn X self T.tC) ?_
  refine init_runK (s := ⟨(hp.push (kdv_tup [])).push (excO C hp.objs.size), g, dr, tk, os⟩) T (X.keeps k) (hlim.keeps k) hget hnx ?_ fun h' tk' dx ⟨k', hx, dn, dne, hns⟩ => ?_
  · show A.depth + 1 < recursionLimit
    exact hroom
  · have old : ∀ b o, hp.get? b = some o → h'.get? b = some o := fun b o e => k' b o (Nat.ne_of_lt (Nat.lt_succ_of_lt (Heap.lt_size e))) (k b o e)
    have z : hp.objs.size + 1 + 1 ≤ dx := by
      first
        | (simpa only [Heap.size_push] using dn)
        | exact dn
        | (have q := dn; rw [Heap.size_push, Heap.size_push] at q; exact q)
    exact ⟨rfl, hq h' tk' (hp.objs.size + 1) dx ⟨old, Nat.le_succ _, ⟨_, _, hx, rfl, rfl, rfl, rfl⟩, Nat.le_trans (Nat.le_trans (Nat.le_succ _) (Nat.le_succ _)) z, dne, hns⟩⟩
end
open PySem.Spec L2
section
variable {X : Cx} {C fI : Addr} {x0 q0 : Str}
/-- x0(number=e) as a value -/
theorem pe_newK {kws : List Keyword} {tk : TA} {p pos : Pos} {k : Nat} (T : Tx X.K X.mg x0 q0 C fI) (hr : Room k X.A) (hkw : PK X kws tk) (hg : Gl X x0)
    (hall : (backToKw pos (keywordEach kws X.env)).all (·.1.isSome) = true := by rfl) (hks : (backToKw pos (keywordEach kws X.env)).filterMap (·.1) = [("number" : Str)] := by rfl)
    (hdb : (x0 == ("__debug__" : Str)) = false := by decide) (hpl : ((backTo pos (starEach [] X.env)).any (·.1) || (backToKw pos (keywordEach kws X.env)).any (·.1.isNone)) = false := by rfl) :
    PE X (.Call (.Name x0 p) [] kws pos) (tNew C tk) := by
  refine ⟨fun pins s σ H Q I h => ?_⟩
  refine wpAny_Call_Name_kw (ld_glob I hg T.gC ?_ hdb)
  refine PySem.W.callWith_KW0 (h₀ := X.base) I.ok.mod.kin T.kC hall ?_ hpl
  refine thn (hkw.run pos pins s σ H _ I h) fun ws s1 ⟨vs, H1, I1, r1, v, ev, q1⟩ => ⟨I1.kIn, ?_⟩
  rw [hks]
  subst ev
  cases r1 with
  | cons rv rn =>
    cases rn
    rename_i v' _
    show wpAny _ _ (call (.ref C) [] [(("number" : Str), v')]) _ _ _
    have hlim := I1.nolimit
    obtain ⟨hp, g, dr, tk, os⟩ := s1
    refine wpAny_call (made_runK T I1.kIn hlim (by have := hr.dp; omega) fun h' tk' e d M => ?_)
    obtain ⟨oe, fv, hoe, hc, hd, hdat, h1⟩ := M.obj
    have hns := M.ns
    obtain ⟨G', g1, g2⟩ := restrict h' fun b => decide (b ≠ e)
    have gk : ∀ b, b ≠ e → G'.get? b = h'.get? b := fun b hb => g1 b (decide_eq_true hb)
    have ge : G'.get? e = none := g2 e (by simp)
    have old : ∀ b o, hp.get? b = some o → G'.get? b = some o := fun b o q => (gk b (Nat.ne_of_lt (Nat.lt_of_lt_of_le (Heap.lt_size q) M.new))).trans (M.keep b o q)
    have ob : ObjOk X.prog X.w (upd H1 d (.xd [(("number" : Str), v)])) G' d (.xd [(("number" : Str), v)]) :=
      ⟨_, hns.at (fun o q => (gk d M.dne).trans q), fun f => rel_number rv f⟩
    have J : Inv X pins σ (upd H1 d (.xd [(("number" : Str), v)])) ⟨G', g, dr, tk', os⟩ := I1.laid (t' := tk') old M.dbig ob
    have He : H1 e = none := I1.hok.fresh M.new
    have J2 := J.laidN (h' := h') (t' := tk') (o := ExV C (some d) e) (fun b o q => by
      by_cases hb : b = e
      · have q' : G'.get? b = some o := q
        rw [hb, ge] at q'; cases q'
      · exact (gk b hb).symm.trans q) ge (by rw [upd_ne (Ne.symm M.dne)]; exact He) (exV_ok hoe ⟨hc, hd⟩ ⟨fv, hdat⟩)
    exact ⟨.ref e, _, J2, rfl, q1 d e (I1.hok.fresh M.dbig) He M.dne⟩
end
end Enumber
end Bx

namespace Bx
namespace Eword
open PySem PySem.W PySem.Calls PyProof.Rows PySem.HandSPX
section
variable {prog : Program} {w : World} {A : Around} {E : Value → Shared → Prop} {R : Result → Shared → Prop} {s : Shared} {K : Frag} {mg : Str → Option Value} {x0 q0 : Str} {C fI : Addr}
theorem init_runK (T : Tx K mg x0 q0 C fI) {x t0 : Addr} {v : Value} (X : K.In s.heap) (hlim : s.heap.NoLimit) (hx : s.heap.get? x = some (excO C t0)) (hnx : K.lookup x = none) (hroom : A.depth < recursionLimit)
    (hq : ∀ h' tk dx, InitEnd s.heap h' x C dx t0 v → R (.ok (.ret .none)) { s with heap := h', toks := tk }) :
    codeAny (model prog w) A (.call (.ref fI) ⟨[.ref x], [(("word" : Str), v)]⟩) R s := by
  obtain ⟨oc, od, doc, pm, an, cdv, ct, osl, p1, p2, q1, q2, q3, q4, ho, hcd⟩ := T.fn
  obtain ⟨nm, q, N, bs, bm, sn, sub, ab, col, dd, k0, k1, k2, k3, k5, hC, hbm⟩ := T.cls
  have hcl : clsIn K C = some { name := nm, bases := bs, mro := .ref C :: bm, ns := N, qualname := q, hasDict := true, slotNames := sn, subclasses := sub, abstract := ab, collection := col, hasDel := false } := by unfold clsIn; rw [hC] <;> rfl
  refine Att.call_fn (binds := [("self", .ref x), ("word", v)]) X hlim ho hcd hroom (BindsTo.of_eq (by first | rfl | with_unfolding_all rfl)) (by first | rfl | decide | with_unfolding_all rfl) (fun s₁ IC => ?_) rfl rfl rfl
  obtain ⟨h₁, tk₁, rfl⟩ := IC.toInCall.same
  have k : ∀ b o, s.heap.get? b = some o → h₁.get? b = some o := IC.toInCall.keep
  have hn := IC.toInCall.ns
  have hxL : s.heap.objs.size ≠ x := Nat.ne_of_gt (Heap.lt_size hx)
  have X₁ : K.In h₁ := X.keeps k
  have hx₁ := k _ _ hx
  show wpAny _ _ (execs _ _) _ _ _
  refine wpAny_execs_cons (plainObj_wpAny_Assign_Attribute ?_)
  refine slot_ld (v := v) hn (by first | rfl | with_unfolding_all rfl | kernel_rfl) (slot_ld (v := .ref x) hn (by first | rfl | with_unfolding_all rfl | kernel_rfl) ?_)
  refine set_plain X₁ (ox := excO C t0) (od := none) ⟨hx₁, rfl, rfl, trivial⟩ T.sa ?_
  refine first_store X₁ hx₁ hcl (show exRow (.ref C :: bm) = true from hbm) rfl T.noN (fun h₃ tk₃ dx k₃ dn dne hx₃ hn₃ => ?_)
  show wpAny _ _ (execs _ _) _ _ _
  have z : s.heap.objs.size < h₁.objs.size := hn.lt
  exact wpAny_execs_nil (hq h₃ tk₃ dx ⟨fun b o hb e => k₃ b o hb (k b o e), hx₃, Nat.le_of_lt (Nat.lt_of_lt_of_le z dn), dne, hn₃⟩)
theorem made_runK (T : Tx K mg x0 q0 C fI) {v : Value} (X : K.In s.heap) (hlim : s.heap.NoLimit) (hroom : A.depth + 1 < recursionLimit)
    (hq : ∀ h' tk e d, Made s.heap h' e C d v → R (.ok (.ret (.ref e))) { s with heap := h', toks := tk }) :
    codeAny (model prog w) A (.call (.ref C) ⟨[], [(("word" : Str), v)]⟩) R s := by
  obtain ⟨nm, q, N, bs, bm, sn, sub, ab, col, dd, k0, k1, k2, k3, k5, hC, hbm⟩ := T.cls
  obtain ⟨hp, g, dr, tk, os⟩ := s
  have k : ∀ b o, hp.get? b = some o → ((hp.push (kdv_tup [])).push (excO C hp.objs.size)).get? b = some o := fun b o e => Heap.get?_push_of_some _ (Heap.get?_push_of_some _ e)
  have hget : ((hp.push (kdv_tup [])).push (excO C hp.objs.size)).get? (hp.objs.size + 1) = some (excO C hp.objs.size) := by heap_get
  have hnx : K.lookup (hp.objs.size + 1) = none := by
    cases e : K.lookup (hp.objs.size + 1) with
    | none => rfl
    | some o =>
      have z : hp.get? (hp.objs.size + 1) = some o := X _ _ e
      exact absurd (Nat.lt_of_succ_lt (Heap.lt_size z)) (Nat.lt_irrefl _)
  refine EkX.call_ownK F.excBase_Exception (fun X => exRow_has X bm hbm) (X _ _ hC) (looks_findIn X T.iC) (fun self => bind_fn X self T.tC) ?_
  refine init_runK (s := ⟨(hp.push (kdv_tup [])).push (excO C hp.objs.size), g, dr, tk, os⟩) T (X.keeps k) (hlim.keeps k) hget hnx ?_ fun h' tk' dx ⟨k', hx, dn, dne, hns⟩ => ?_
  · show A.depth + 1 < recursionLimit
    exact hroom
  · have old : ∀ b o, hp.get? b = some o → h'.get? b = some o := fun b o e => k' b o (Nat.ne_of_lt (Nat.lt_succ_of_lt (Heap.lt_size e))) (k b o e)
    have z : hp.objs.size + 1 + 1 ≤ dx := by
      first
        | (simpa only [Heap.size_push] using dn)
        | exact dn
        | (have q := dn; rw [Heap.size_push, Heap.size_push] at q; exact q)
    exact ⟨rfl, hq h' tk' (hp.objs.size + 1) dx ⟨old, Nat.le_succ _, ⟨_, _, hx, rfl, rfl, rfl, rfl⟩, Nat.le_trans (Nat.le_trans (Nat.le_succ _) (Nat.le_succ _)) z, dne, hns⟩⟩
end
open PySem.Spec L2
section
variable {X : Cx} {C fI : Addr} {x0 q0 : Str}
/-- x0(word=e) as a value -/
theorem pe_newK {kws : List Keyword} {tk : TA} {p pos : Pos} {k : Nat} (T : Tx X.K X.mg x0 q0 C fI) (hr : Room k X.A) (hkw : PK X kws tk) (hg : Gl X x0)
    (hall : (backToKw pos (keywordEach kws X.env)).all (·.1.isSome) = true := by rfl) (hks : (backToKw pos (keywordEach kws X.env)).filterMap (·.1) = [("word" : Str)] := by rfl)
    (hdb : (x0 == ("__debug__" : Str)) = false := by decide) (hpl : ((backTo pos (starEach [] X.env)).any (·.1) || (backToKw pos (keywordEach kws X.env)).any (·.1.isNone)) = false := by rfl) :
    PE X (.Call (.Name x0 p) [] kws pos) (tNew C tk) := by
  refine ⟨fun pins s σ H Q I h => ?_⟩
  refine wpAny_Call_Name_kw (ld_glob I hg T.gC ?_ hdb)
  refine PySem.W.callWith_KW0 (h₀ := X.base) I.ok.mod.kin T.kC hall ?_ hpl
  refine thn (hkw.run pos pins s σ H _ I h) fun ws s1 ⟨vs, H1, I1, r1, v, ev, q1⟩ => ⟨I1.kIn, ?_⟩
  rw [hks]
  subst ev
  cases r1 with
  | cons rv rn =>
    cases rn
    rename_i v' _
    show wpAny _ _ (call (.ref C) [] [(("word" : Str), v')]) _ _ _
    have hlim := I1.nolimit
    obtain ⟨hp, g, dr, tk, os⟩ := s1
    refine wpAny_call (made_runK T I1.kIn hlim (by have := hr.dp; omega) fun h' tk' e d M => ?_)
    obtain ⟨oe, fv, hoe, hc, hd, hdat, h1⟩ := M.obj
    have hns := M.ns
    obtain ⟨G', g1, g2⟩ := restrict h' fun b => decide (b ≠ e)
    have gk : ∀ b, b ≠ e → G'.get? b = h'.get? b := fun b hb => g1 b (decide_eq_true hb)
    have ge : G'.get? e = none := g2 e (by simp)
    have old : ∀ b o, hp.get? b = some o → G'.get? b = some o := fun b o q => (gk b (Nat.ne_of_lt (Nat.lt_of_lt_of_le (Heap.lt_size q) M.new))).trans (M.keep b o q)
    have ob : ObjOk X.prog X.w (upd H1 d (.xd [(("word" : Str), v)])) G' d (.xd [(("word" : Str), v)]) :=
      ⟨_, hns.at (fun o q => (gk d M.dne).trans q), fun f => rel_word rv f⟩
    have J : Inv X pins σ (upd H1 d (.xd [(("word" : Str), v)])) ⟨G', g, dr, tk', os⟩ := I1.laid (t' := tk') old M.dbig ob
    have He : H1 e = none := I1.hok.fresh M.new
    have J2 := J.laidN (h' := h') (t' := tk') (o := ExV C (some d) e) (fun b o q => by
      by_cases hb : b = e
      · have q' : G'.get? b = some o := q
        rw [hb, ge] at q'; cases q'
      · exact (gk b hb).symm.trans q) ge (by rw [upd_ne (Ne.symm M.dne)]; exact He) (exV_ok hoe ⟨hc, hd⟩ ⟨fv, hdat⟩)
    exact ⟨.ref e, _, J2, rfl, q1 d e (I1.hok.fresh M.dbig) He M.dne⟩
end
end Eword
end Bx
namespace Bx
open PySem PySem.Spec PyProof.Rows L2
abbrev exB : List Value := [.type "Exception", .type "BaseException", .type "object"]
/-- an own error without an __init__ of its own, or the base of all -/
structure Tx0 (K : PySem.W.Frag) (mg : Str → Option Value) (x : Str) (C : Addr) : Prop where
  gC : mg x = some (.ref C)
  q : PySem.W.excIn K C exB "Exception.__new__" = true
  kC : PySem.W.keepIn K (.ref C) = true
  exC : PySem.W.subIn K (.ref C) (.type "BaseException") = some true
  tyC : PySem.W.typeIn K (.ref C) = some (.type "type")
section
variable {X : Cx} {C : Addr} {x : Str} {W : WX} {p pos pos2 : Pos}
theorem pmk0 (T : Tx0 X.K X.mg x C) (hg : Gl X x) (hdb : (x == ("__debug__" : Str)) = false := by decide) : PMk X (.Call (.Name x p) [] [] pos) (fun _ H Q => Q (.ref C) none H) := by
  intro pins s σ H Q I h
  refine wpAny_Call_Name_kw (ld_glob I hg T.gC ?_ hdb)
  refine PySem.W.callWith_K0 I.kIn T.kC ?_
  show wpAny _ _ (call (.ref C) []) _ _ _
  obtain ⟨bm, N, nm, qn, bs, hdct, sn, sub, ab, col, dd, k0, k1, k2, k3, k5, mN, hC, hN, hni, Tt⟩ := exc_obj I.kIn T.q
  refine wpAny_call_exc_subT PySem.F.excBase_Exception Tt hC hN hni (fun h' e hm => ?_) (by show 0 ≤ sizeLine; omega)
  exact mk_of I hm (raises_own T.exC T.tyC) h (I.hok.gone hm.new)
def tRaise0 (C : Addr) (W : WX) : TS := fun _ σ H => W (.ref C) none σ H
theorem ps_raise0 (hc : X.calm = true) (T : Tx0 X.K X.mg x C) (tk : Takes X W) (hg : Gl X x) (hdb : (x == ("__debug__" : Str)) = false := by decide) : PS X (.Raise (some (.Call (.Name x p) [] [] pos)) none pos2) (tRaise0 C W) := ps_raise hc tk (pmk0 T hg hdb)
theorem x_raise0 {σ : L2.St} {H : Hp} {n b c : L2.St → Hp → Prop} {r : VK} (q : W (.ref C) none σ H) : tRaise0 C W ⟨n, r, b, c⟩ σ H := q
theorem pe_newN (T : Tx0 X.K X.mg x C) (hg : Gl X x) (hdb : (x == ("__debug__" : Str)) = false := by decide) : PE X (.Call (.Name x p) [] [] pos) (tNew0 C) := pe_new0 PySem.F.excBase_Exception T.q T.gC T.kC hg hdb
/-- isinstance(e, c), e the error that the suite holds -/
def rIsS (K : PySem.W.Frag) (Cs : List Addr) (a : Addr) (cls : Value) (d : Option Addr) : List V → Hp → VK → Prop := fun xs H Q => ∃ (D : Addr) (c : V) (cv : Value) (b : Bool), xs = [.ref a, c] ∧ cls = .ref D ∧ D ∈ Cs ∧ (∀ u, RelV c u → u = cv) ∧ (∀ dx, d = some dx → ∃ fs, H dx = some (.xd fs)) ∧ PySem.W.kitOne K (.ref D) cv = some b ∧ Q (.bl b) H
theorem call_isS {Cs : List Addr} {a : Addr} {cls : Value} {d : Option Addr} {oe : Obj} {pn : List (Addr × Obj)} (hC : ∀ C, C ∈ Cs → ExcC2 X.K C) (hz : Zc cls d oe) (hf : ∃ vs, oe.data = .fields vs) : CallR (X.suite a ((a, oe) :: pn)) (.builtin "isinstance") (rIsS X.K Cs a cls d) := by
  intro pins s σ H xs us Q I r h
  obtain ⟨D, c, cv, b, rfl, rfl, hCs, hcv, ed, e, q⟩ := h
  cases r with
  | cons rx rr =>
    cases rr with
    | cons rt rr =>
      cases rr
      cases rx
      have ec := hcv _ rt
      subst ec
      have c2 := hC D hCs
      obtain ⟨hget, _⟩ := I.pin (a, oe) (List.mem_append.mpr (.inl List.mem_cons_self))
      obtain ⟨vs, hv⟩ := hf
      have J : ∃ od, PySem.W.InstAt s.heap a oe D od := by
        cases d with
        | none =>
          obtain ⟨oc, od, oda, osl⟩ := oe
          obtain ⟨h1, h2⟩ := hz
          dsimp only at h1 h2 hv
          subst h1 h2 hv
          exact ⟨none, hget, rfl, rfl, trivial⟩
        | some dx =>
          obtain ⟨fs, ex⟩ := ed dx rfl
          obtain ⟨mA, hns, _⟩ := I.hok dx _ ex
          obtain ⟨od, ho, _⟩ := lookIn_ns hns
          exact ⟨some od, hget, hz.1, by unfold PySem.W.notCls; rw [hv] <;> rfl, by rw [hz.2]; exact ho⟩
      obtain ⟨od, J⟩ := J
      exact PySem.W.kia_one (PySem.W.kitx_exc c2.hc c2.hg c2.hk c2.hs c2.ha c2.hn c2.ht c2.hm) I.kIn J e (fun z => nomatch z) fun tk => ⟨.bl b, H, I.kept (t' := tk) fun _ _ z => z, rfl, q⟩
end
open PySem.W in
/-- an error of the class at C is what «except S» names -/
theorem names_of {K : Frag} {C S : Addr} (h1 : subIn K (.ref S) (.type "BaseException") = some true) (h2 : isClsIn K S = true) (h3 : typeIn K (.ref S) = some (.type "type")) (h4 : subIn K (.ref C) (.ref S) = some true) :
    exmOne K (.ref C) (.ref S) = some true := by
  have e1 : (subIn K (.ref S) (.type "BaseException") == some true) = true := by rw [h1] <;> rfl
  have e2 : ((clsIn K S).isSome && typeIn K (.ref S) == some (.type "type")) = true := by
    have h2' : (clsIn K S).isSome = true := h2
    rw [h2', h3] <;> rfl
  show (if (subIn K (.ref S) (.type "BaseException") == some true) = true then (if ((clsIn K S).isSome && typeIn K (.ref S) == some (.type "type")) = true then subIn K (.ref C) (.ref S) else none) else none) = some true
  rw [if_pos e1, if_pos e2]
  exact h4
/-! ### what isinstance says of all errors -/
structure KitT (K : PySem.W.Frag) (Cs : List Addr) (S : Addr) : Prop where
  own : ∀ i j, i < Cs.length → j < Cs.length → PySem.W.kitOne K (.ref (Cs.getD i S)) (.ref (Cs.getD j S)) = some (i == j)
  base : ∀ C, C ∈ Cs → PySem.W.kitOne K (.ref C) (.ref S) = some true
  ty : ∀ C, C ∈ Cs → ∀ T, T ∈ ["ValueError", "LookupError", "ArithmeticError"] → PySem.W.kitOne K (.ref C) (.type T) = some false
  exc : ∀ C, C ∈ Cs → PySem.W.kitOne K (.ref C) (.type "Exception") = some true
  c2 : ∀ C, C ∈ Cs → ExcC2 K C
def c2B (K : PySem.W.Frag) (D : Addr) : Bool := (PySem.W.clsIn K D).isSome && PySem.W.findIn K (.ref D) "__getattribute__" == some (some (.builtin "BaseException.__getattribute__")) && PySem.W.findIn K (.ref D) "__getattr__" == some none && PySem.W.subIn K (.ref D) (.type "BaseException") == some true && PySem.W.findIn K (.ref D) "__class__" == some (some (.builtin "object.__class__")) && PySem.W.mroIn K D (.type "object") == some true
def kitB (K : PySem.W.Frag) (Cs : List Addr) (S : Addr) : Bool :=
  ((List.range Cs.length).all fun i => (List.range Cs.length).all fun j => PySem.W.kitOne K (.ref (Cs.getD i S)) (.ref (Cs.getD j S)) == some (i == j)) &&
  (Cs.all fun C => PySem.W.kitOne K (.ref C) (.ref S) == some true && (["ValueError", "LookupError", "ArithmeticError"].all fun T => PySem.W.kitOne K (.ref C) (.type T) == some false) && PySem.W.kitOne K (.ref C) (.type "Exception") == some true && c2B K C)
theorem KitT.of {K : PySem.W.Frag} {Cs : List Addr} {S : Addr} (h : kitB K Cs S = true) (hn : PySem.W.specialIn K (.builtin "object.__class__") "__get__" = some (some (.builtin "getset_descriptor.__get__"))) (ht : PySem.W.takesIn K (.builtin "object.__class__") = some true) : KitT K Cs S := by
  unfold kitB at h
  rw [Bool.and_eq_true, List.all_eq_true, List.all_eq_true] at h
  obtain ⟨h1, h2⟩ := h
  refine ⟨fun i j hi hj => ?_, fun C hC => ?_, fun C hC T hT => ?_, fun C hC => ?_, fun C hC => ?_⟩
  · have a := h1 i (List.mem_range.mpr hi)
    rw [List.all_eq_true] at a
    exact beq_iff_eq.mp (a j (List.mem_range.mpr hj))
  all_goals
    have a := h2 C hC
    simp only [Bool.and_eq_true, List.all_eq_true, beq_iff_eq] at a
    obtain ⟨⟨⟨a1, a2⟩, a3⟩, a4⟩ := a
  · exact a1
  · exact a2 T hT
  · exact a3
  · unfold c2B at a4
    simp only [Bool.and_eq_true, beq_iff_eq] at a4
    obtain ⟨⟨⟨⟨⟨b1, b2⟩, b3⟩, b4⟩, b5⟩, b6⟩ := a4
    exact ⟨b1, b2, b3, b4, b5, hn, ht, b6⟩
/-! ### values -/
/-- v is an error of the class C whose field f holds u -/
def ErF (H : Hp) (v : V) (C : Addr) (f : Str) (u : V) : Prop := ∃ a d, v = .ref a ∧ H a = some (ExV C (some d) a) ∧ H d = some (.xd [(f, u)])
/-- v is an error of the class C -/
def Er (H : Hp) (v : V) (C : Addr) : Prop := ∃ a d, v = .ref a ∧ H a = some (ExV C d a) ∧ ∀ dx, d = some dx → ∃ fs, H dx = some (.xd fs)
section
variable {H H1 : Hp} {v u c : V} {C S : Addr} {f : Str} {Q : VK} {K : PySem.W.Frag} {Cs : List Addr} {σ : L2.St}
theorem ErF.same (h : ErF H v C f u) (s : Same H H1) : ErF H1 v C f u := by
  obtain ⟨a, d, e, h1, h2⟩ := h
  exact ⟨a, d, e, s _ _ h1, s _ _ h2⟩
theorem Er.same (h : Er H v C) (s : Same H H1) : Er H1 v C := by
  obtain ⟨a, d, e, h1, h2⟩ := h
  exact ⟨a, d, e, s _ _ h1, fun dx z => by
    obtain ⟨fs, q⟩ := h2 dx z
    exact ⟨fs, s _ _ q⟩⟩
theorem ErF.er (h : ErF H v C f u) : Er H v C := by
  obtain ⟨a, d, e, h1, h2⟩ := h
  exact ⟨a, some d, e, h1, fun dx z => by cases z; exact ⟨_, h2⟩⟩
theorem new_ok (q : ∀ v' H', Same H H' → ErF H' v' C f u → Q v' H') : ∀ d e, H d = none → H e = none → d ≠ e → Q (.ref e) (upd (upd H d (.xd [(f, u)])) e (ExV C (some d) e)) := fun d e hd he ne => by
  have he' : upd H d (.xd [(f, u)]) e = none := by rw [upd_ne (Ne.symm ne)]; exact he
  exact q _ _ (Same.new (Same.new (Same.refl _) hd) he') ⟨e, d, rfl, upd_same, upd_get he' upd_same⟩
theorem x_new0 (q : ∀ v' H', Same H H' → Er H' v' C → Q v' H') : tNew0 C σ H Q := fun a ha =>
  q _ _ (Same.new (Same.refl _) ha) ⟨a, none, rfl, upd_same, fun dx z => nomatch z⟩
theorem x_isV {b : Bool} {cv : Value} (h : Er H v C) (hC : C ∈ Cs) (hc : ∀ w, RelV c w → w = cv) (hk : PySem.W.kitOne K (.ref C) cv = some b) (q : Q (.bl b) H) : rIsV K Cs [v, c] H Q := by
  obtain ⟨a, d, rfl, h1, h2⟩ := h
  exact ⟨a, C, d, c, cv, b, rfl, hC, hc, h1, h2, hk, q⟩
theorem rel_ref {D : Addr} : ∀ w, RelV (.ref D) w → w = .ref D := fun w r => r
theorem rel_ty {T : String} : ∀ w, RelV (.ty T) w → w = .type T := fun w r => r
theorem get_of {g : Addr → Prop} (h : ErF H v C f u) (hC : C ∈ Cs) (q : Q u H) : ∃ (a C d : Addr) (w : V), v = .ref a ∧ C ∈ Cs ∧ H a = some (ExV C (some d) a) ∧ H d = some (.xd [(f, w)]) ∧ Q w H := by
  obtain ⟨a, d, rfl, h1, h2⟩ := h
  exact ⟨a, C, d, u, rfl, hC, h1, h2, q⟩
theorem ball_nil {α : Type} {P : α → Prop} : ∀ x, x ∈ ([] : List α) → P x := fun _ z => nomatch z
theorem ball_cons {α : Type} {P : α → Prop} {a : α} {l : List α} (h : P a) (t : ∀ x, x ∈ l → P x) : ∀ x, x ∈ a :: l → P x := fun x z => by
  rcases List.mem_cons.mp z with rfl | z
  · exact h
  · exact t x z
end
end Bx
namespace Bx
open PySem L2
local macro_rules | `(tactic| walk_at "st") => `(tactic| first
  | (with_reducible refine x_seq ?_)
  | (with_reducible refine x_asg ?_)
  | (with_reducible refine x_ret ?_)
  | (with_reducible refine x_drop ?_)
  | (with_reducible refine x_ifS ?_)
  | (with_reducible refine x_next ?_)
  | (with_reducible refine x_gName ?_)
  | ((with_reducible refine x_var (v := ?v) ?hv ?qv); (case hv => rfl))
  | (with_reducible refine x_c ?_)
  | (with_reducible refine x_op ?_)
  | (with_reducible refine x_un ?_)
  | (with_reducible refine x_sub ?_)
  | (with_reducible refine x_lt ?_)
  | (with_reducible refine x_le ?_)
  | (with_reducible refine x_gt ?_)
  | (with_reducible refine x_ge ?_)
  | (with_reducible refine x_neg ?_)
  | (with_reducible refine x_isN ?_)
  | (with_reducible refine x_notN ?_)
  | (with_reducible refine x_abs ?_)
  | (with_reducible refine x_addI ?_)
  | (with_reducible refine x_eqI ?_)
  | (with_reducible refine x_neI ?_)
  | (with_reducible refine x_test ?_)
  | (with_reducible refine x_tB ?_)
  | (with_reducible refine x_isB ?_)
  | (with_reducible refine x_and ?_)
  | (with_reducible refine x_or ?_)
  | (with_reducible refine x_not ?_)
  | (with_reducible refine x_andV ?_)
  | (with_reducible refine x_orV ?_)
  | (with_reducible refine x_notV ?_)
  | (with_reducible refine x_chain ?_)
  | (with_reducible refine x_ifE ?_)
  | (with_reducible refine x_cons ?_)
  | (with_reducible refine x_nil ?_)
  | (with_reducible refine x_tup ?_)
  | (with_reducible refine x_lst ?_)
  | (with_reducible refine x_cb ?_)
  | (with_reducible refine x_call ?_)
  | (with_reducible refine x_callK ?_)
  | (with_reducible refine x_callS ?_)
  | (with_reducible refine x_callSK ?_)
  | (with_reducible refine x_sl ?_)
  | (with_reducible refine x_no ?_)
  | (with_reducible refine x_part ?_)
  | (with_reducible refine x_exI ?_)
  | (with_reducible refine x_bm ?_)
  | (with_reducible refine x_gSub ?_)
  | (with_reducible refine x_gCons ?_)
  | (with_reducible refine x_gNil ?_)
  | (with_reducible refine x_iteT ?_)
  | (with_reducible refine x_iteF ?_)
  | (with_reducible refine x_iteNT ?_)
  | (with_reducible refine x_iteNF ?_)
  | (with_reducible refine x_int1 ?_)
  | (with_reducible refine x_max2 ?_)
  | (with_reducible refine x_min2 ?_)
  | (with_reducible refine x_forX ?_)
  | (with_reducible refine x_forR ?_)
  | (with_reducible refine x_lcX ?_)
  | (with_reducible refine x_lcR ?_)
  | (with_reducible refine x_tYes ?_)
  | (with_reducible refine x_brk ?_))
local macro_rules | `(tactic| walk_at "sts") => `(tactic| repeat (walk_at "st"))
local macro_rules | `(tactic| walk_at "isa") => `(tactic| first | rfl | (dsimp only [Da.isa]; decide))
local macro_rules | `(tactic| walk_at "rp") => `(tactic| first
  | assumption
  | exact Rp.int _ | exact Rp.non | exact Rp.bl _ | exact Rp.str _
  | ((refine Rp.same (H := ?Ha) ?ra ?rb); (case rb => assumption); (case ra => walk_at "rp"))
  | ((refine Rp.kp (H := ?Ha) ?ra ?rb); (case rb => assumption); (case ra => walk_at "rp")))
local macro_rules | `(tactic| walk_at "rps") => `(tactic| first
  | exact Rps.nil
  | ((refine Rps.cons ?ra ?rb); (case ra => walk_at "rp"); (case rb => walk_at "rps")))
local macro_rules | `(tactic| walk_at "wd") => `(tactic| first
  | assumption
  | ((refine Wd.same (H := ?Ha) ?ra ?rb); (case rb => assumption); (case ra => walk_at "wd")))
local macro_rules | `(tactic| walk_at "len") => `(tactic| first | exact Nat.le_of_ble_eq_true rfl | (simp; done) | (simp; omega))

def top (i : Nat) : Stmt := PySem.Challenge.pw_boundstead_k00_errors.main.body.getD i (.Pass ⟨0, 0, 0, 0⟩)
abbrev s__law_so : Stmt := top 18
abbrev N__law_so : List Str := ["found", "meant", "k"]
theorem sc__law_so : FnScope N__law_so ["found", "meant"] (defScope s__law_so) := ⟨rfl, rfl, rfl, by decide +kernel, rfl, by decide +kernel, by decide +kernel⟩
abbrev s__law_numbers : Stmt := top 19
abbrev N__law_numbers : List Str := ["script", "row", "cell", "left", "k", "mixed"]
theorem sc__law_numbers : FnScope N__law_numbers ["script"] (defScope s__law_numbers) := ⟨rfl, rfl, rfl, by decide +kernel, rfl, by decide +kernel, by decide +kernel⟩
abbrev s__law_draw : Stmt := top 20
abbrev N__law_draw : List Str := ["row", "at", "limit", "mixed"]
theorem sc__law_draw : FnScope N__law_draw ["row", "at", "limit"] (defScope s__law_draw) := ⟨rfl, rfl, rfl, by decide +kernel, rfl, by decide +kernel, by decide +kernel⟩
abbrev s__law_take : Stmt := top 21
abbrev N__law_take : List Str := ["row", "spot", "limit"]
theorem sc__law_take : FnScope N__law_take ["row", "spot", "limit"] (defScope s__law_take) := ⟨rfl, rfl, rfl, by decide +kernel, rfl, by decide +kernel, by decide +kernel⟩
abbrev s__law_wide : Stmt := top 22
abbrev N__law_wide : List Str := ["row", "spot", "limit", "first", "second", "third"]
theorem sc__law_wide : FnScope N__law_wide ["row", "spot", "limit"] (defScope s__law_wide) := ⟨rfl, rfl, rfl, by decide +kernel, rfl, by decide +kernel, by decide +kernel⟩
abbrev s__law_of : Stmt := top 23
abbrev N__law_of : List Str := ["value", "made", "k", "kinds"]
theorem sc__law_of : FnScope N__law_of ["value"] (defScope s__law_of) := ⟨rfl, rfl, rfl, by decide +kernel, rfl, by decide +kernel, by decide +kernel⟩
abbrev s__law_foreign : Stmt := top 24
abbrev N__law_foreign : List Str := ["value"]
theorem sc__law_foreign : FnScope N__law_foreign ["value"] (defScope s__law_foreign) := ⟨rfl, rfl, rfl, by decide +kernel, rfl, by decide +kernel, by decide +kernel⟩
abbrev s__law_caught : Stmt := top 25
abbrev N__law_caught : List Str := ["at", "wrong"]
theorem sc__law_caught : FnScope N__law_caught ["at"] (defScope s__law_caught) := ⟨rfl, rfl, rfl, by decide +kernel, rfl, by decide +kernel, by decide +kernel⟩
abbrev s_law : Stmt := top 26
abbrev N_law : List Str := ["script", "row", "spot", "at", "key", "word", "other", "places", "named", "made", "items", "row_made", "k", "one"]
theorem sc_law : FnScope N_law ["script"] (defScope s_law) := ⟨rfl, rfl, rfl, by decide +kernel, rfl, by decide +kernel, by decide +kernel⟩
structure Txt (K : PySem.W.Frag) (mg : Str → Option Value) (C_BadPages : Addr) (C_Closed : Addr) (C_Crashed : Addr) (C_NoStore : Addr) (C_SpatialError : Addr) (C_TakenDisk : Addr) (C_BadBound fI_BadBound : Addr) (C_BadCut fI_BadCut : Addr) (C_BadLine fI_BadLine : Addr) (C_BadSyntax fI_BadSyntax : Addr) (C_BadValue fI_BadValue : Addr) (C_NoItem fI_NoItem : Addr) (C_NoPage fI_NoPage : Addr) (C_OutOfRange fI_OutOfRange : Addr) (C_TakenKey fI_TakenKey : Addr) (C_TooMany fI_TooMany : Addr) : Prop where
  n_BadPages : Tx0 K mg "BadPages" C_BadPages
  n_Closed : Tx0 K mg "Closed" C_Closed
  n_Crashed : Tx0 K mg "Crashed" C_Crashed
  n_NoStore : Tx0 K mg "NoStore" C_NoStore
  n_SpatialError : Tx0 K mg "SpatialError" C_SpatialError
  n_TakenDisk : Tx0 K mg "TakenDisk" C_TakenDisk
  e_BadBound : Eat.Tx K mg "BadBound" "BadBound.__init__" C_BadBound fI_BadBound
  e_BadCut : Eat.Tx K mg "BadCut" "BadCut.__init__" C_BadCut fI_BadCut
  e_BadLine : Eat.Tx K mg "BadLine" "BadLine.__init__" C_BadLine fI_BadLine
  e_BadSyntax : Eat.Tx K mg "BadSyntax" "BadSyntax.__init__" C_BadSyntax fI_BadSyntax
  e_BadValue : Eat.Tx K mg "BadValue" "BadValue.__init__" C_BadValue fI_BadValue
  e_NoItem : Ekey.Tx K mg "NoItem" "NoItem.__init__" C_NoItem fI_NoItem
  e_NoPage : Enumber.Tx K mg "NoPage" "NoPage.__init__" C_NoPage fI_NoPage
  e_OutOfRange : Ekey.Tx K mg "OutOfRange" "OutOfRange.__init__" C_OutOfRange fI_OutOfRange
  e_TakenKey : Ekey.Tx K mg "TakenKey" "TakenKey.__init__" C_TakenKey fI_TakenKey
  e_TooMany : Eword.Tx K mg "TooMany" "TooMany.__init__" C_TooMany fI_TooMany
  x_BadPages_SpatialError : PySem.W.exmOne K (.ref C_BadPages) (.ref C_SpatialError) = some true
  x_BadValue_SpatialError : PySem.W.exmOne K (.ref C_BadValue) (.ref C_SpatialError) = some true
  x_Crashed_SpatialError : PySem.W.exmOne K (.ref C_Crashed) (.ref C_SpatialError) = some true
  b_ArithmeticError : mg "ArithmeticError" = none
  b_Exception : mg "Exception" = none
  b_LookupError : mg "LookupError" = none
  b_ValueError : mg "ValueError" = none
  b_bool : mg "bool" = none
  b_int : mg "int" = none
  b_isinstance : mg "isinstance" = none
  b_len : mg "len" = none
  b_range : mg "range" = none
  b_str : mg "str" = none
  b_tuple : mg "tuple" = none
  tab : KitT K [C_BadValue, C_BadCut, C_BadBound, C_BadSyntax, C_BadLine, C_NoItem, C_TakenKey, C_OutOfRange, C_NoPage, C_TooMany, C_BadPages, C_Crashed, C_NoStore, C_TakenDisk, C_Closed] C_SpatialError
section
variable {P : Program} {w : World} {K : PySem.W.Frag} {mg : Str → Option Value} {base : Heap} {C_BadPages : Addr} {C_Closed : Addr} {C_Crashed : Addr} {C_NoStore : Addr} {C_SpatialError : Addr} {C_TakenDisk : Addr} {C_BadBound fI_BadBound : Addr} {C_BadCut fI_BadCut : Addr} {C_BadLine fI_BadLine : Addr} {C_BadSyntax fI_BadSyntax : Addr} {C_BadValue fI_BadValue : Addr} {C_NoItem fI_NoItem : Addr} {C_NoPage fI_NoPage : Addr} {C_OutOfRange fI_OutOfRange : Addr} {C_TakenKey fI_TakenKey : Addr} {C_TooMany fI_TooMany : Addr}
def t__law_so (K : PySem.W.Frag) (sp__law_so_ : Sp) : TS := (tSeq (tIfS (tTest (tOp rIsNon (tVar 1) (tC .non))) (tRet (tOp rIsNon (tVar 0) (tC .non))) tNext)
    (tSeq (tIfS (tB (tCB (rIsi K) (tCons (tVar 1) (tCons (tC (.ty "tuple")) tNil)))) (tSeq (tIfS (tOr (tNot (tB (tCB (rIsi K) (tCons (tVar 0) (tCons (tC (.ty "tuple")) tNil))))) (tTest (tOp (rNeX K) (tCB (rLen K) (tCons (tVar 0) tNil)) (tCB (rLen K) (tCons (tVar 1) tNil))))) (tRet (tC (.bl false))) tNext)
    (tSeq (tFor (iRng1 (tCons (tCB (rLen K) (tCons (tVar 1) tNil)) tNil)) (gName 2) (tIfS (tNot (tB (tCallO sp__law_so_ (tCons (tOp (rIxX K) (tVar 0) (tVar 2)) (tCons (tOp (rIxX K) (tVar 1) (tVar 2)) tNil))))) (tRet (tC (.bl false))) tNext))
    (tRet (tC (.bl true))))) tNext)
    (tSeq (tIfS (tOr (tB (tCB (rIsi K) (tCons (tVar 1) (tCons (tC (.ty "bool")) tNil)))) (tB (tCB (rIsi K) (tCons (tVar 0) (tCons (tC (.ty "bool")) tNil))))) (tRet (tAndV (tCB (rIsi K) (tCons (tVar 1) (tCons (tC (.ty "bool")) tNil))) (tAndV (tCB (rIsi K) (tCons (tVar 0) (tCons (tC (.ty "bool")) tNil))) (tOp (rEqX K) (tVar 0) (tVar 1))))) tNext)
    (tSeq (tIfS (tB (tCB (rIsi K) (tCons (tVar 1) (tCons (tC (.ty "int")) tNil)))) (tRet (tAndV (tCB (rIsi K) (tCons (tVar 0) (tCons (tC (.ty "int")) tNil))) (tOp (rEqX K) (tVar 0) (tVar 1)))) tNext)
    (tRet (tAndV (tCB (rIsi K) (tCons (tVar 1) (tCons (tC (.ty "str")) tNil))) (tAndV (tCB (rIsi K) (tCons (tVar 0) (tCons (tC (.ty "str")) tNil))) (tOp (rEqX K) (tVar 0) (tVar 1)))))))))
theorem d__law_so {sp__law_so_ : Sp} {E : XK} {f : Addr} {A : Around} {outer : List Env} {s : Shared} {H : Hp} {cdv : Value} {k_ : Nat} (hr : Room k_ (A.deeper (PyProof.Rows.envOfC "_law_so" (defScope s__law_so) s.heap.objs.size f cdv))) (T : Txt K mg C_BadPages C_Closed C_Crashed C_NoStore C_SpatialError C_TakenDisk C_BadBound fI_BadBound C_BadCut fI_BadCut C_BadLine fI_BadLine C_BadSyntax fI_BadSyntax C_BadValue fI_BadValue C_NoItem fI_NoItem C_NoPage fI_NoPage C_OutOfRange fI_OutOfRange C_TakenKey fI_TakenKey C_TooMany fI_TooMany) (O__law_so : Ok P w K mg base k_ "_law_so" ["found", "meant"] sp__law_so_) :
    PSs (cxOf CX0 P w K mg base N__law_so "_law_so" (defScope s__law_so) f cdv A outer s H E).nox (defBody s__law_so) (t__law_so K sp__law_so_) :=
  (pss_cons (ps_if (pt_cmpR o_isN (pv 1) pe_non (nomark _)) (pss_one (ps_ret (pe_cmpR o_isN (pv 0) pe_non (nomark _)))) pss_nil)
    (pss_cons (ps_if (pt_val (pe_callB call_isi (by rfl) T.b_isinstance (by decide +kernel) (pa_cons (pv 1) (pa_cons (pe_bltn (v := .ty "tuple") (by rfl) T.b_tuple (by decide +kernel) rfl) pa_nil)))) (pss_cons (ps_if (PW.pt (pw_or (pt_not (pt_val (pe_callB call_isi (by rfl) T.b_isinstance (by decide +kernel) (pa_cons (pv 0) (pa_cons (pe_bltn (v := .ty "tuple") (by rfl) T.b_tuple (by decide +kernel) rfl) pa_nil))))) (pw_or1 (pt_cmpR (op_neX hr.units) (pe_callB c_len (by rfl) T.b_len (by decide +kernel) (pa_cons (pv 0) pa_nil)) (pe_callB c_len (by rfl) T.b_len (by decide +kernel) (pa_cons (pv 1) pa_nil)) (nomark _))))) (pss_one (ps_ret pe_bl)) pss_nil)
    (pss_cons (ps_for PassesOwn.never rfl (pi_range1 (by rfl) T.b_range (pa_cons (pe_callB c_len (by rfl) T.b_len (by decide +kernel) (pa_cons (pv 1) pa_nil)) pa_nil)) (pg_name (i := 2) sc__law_so.nd rfl (Or.inl rfl)) (pss_one (ps_if (pt_not (pt_val (pe_cO O__law_so hr rfl (pa_cons (pe_ix ix_X (pv 0) (pv 2) (fun _ _ => rfl)) (pa_cons (pe_ix ix_X (pv 1) (pv 2) (fun _ _ => rfl)) pa_nil))))) (pss_one (ps_ret pe_bl)) pss_nil)))
    (pss_one (ps_ret pe_bl)))) pss_nil)
    (pss_cons (ps_if (PW.pt (pw_or (pt_val (pe_callB call_isi (by rfl) T.b_isinstance (by decide +kernel) (pa_cons (pv 1) (pa_cons (pe_bltn (v := .ty "bool") (by rfl) T.b_bool (by decide +kernel) rfl) pa_nil)))) (pw_or1 (pt_val (pe_callB call_isi (by rfl) T.b_isinstance (by decide +kernel) (pa_cons (pv 0) (pa_cons (pe_bltn (v := .ty "bool") (by rfl) T.b_bool (by decide +kernel) rfl) pa_nil))))))) (pss_one (ps_ret (pe_and (pe_callB call_isi (by rfl) T.b_isinstance (by decide +kernel) (pa_cons (pv 1) (pa_cons (pe_bltn (v := .ty "bool") (by rfl) T.b_bool (by decide +kernel) rfl) pa_nil))) (pe_and (pe_callB call_isi (by rfl) T.b_isinstance (by decide +kernel) (pa_cons (pv 0) (pa_cons (pe_bltn (v := .ty "bool") (by rfl) T.b_bool (by decide +kernel) rfl) pa_nil))) (pe_one (pe_cmpR (op_eqX hr.units) (pv 0) (pv 1) (nomark _))))))) pss_nil)
    (pss_cons (ps_if (pt_val (pe_callB call_isi (by rfl) T.b_isinstance (by decide +kernel) (pa_cons (pv 1) (pa_cons (pe_bltn (v := .ty "int") (by rfl) T.b_int (by decide +kernel) rfl) pa_nil)))) (pss_one (ps_ret (pe_and (pe_callB call_isi (by rfl) T.b_isinstance (by decide +kernel) (pa_cons (pv 0) (pa_cons (pe_bltn (v := .ty "int") (by rfl) T.b_int (by decide +kernel) rfl) pa_nil))) (pe_one (pe_cmpR (op_eqX hr.units) (pv 0) (pv 1) (nomark _)))))) pss_nil)
    (pss_one (ps_ret (pe_and (pe_callB call_isi (by rfl) T.b_isinstance (by decide +kernel) (pa_cons (pv 1) (pa_cons (pe_bltn (v := .ty "str") (by rfl) T.b_str (by decide +kernel) rfl) pa_nil))) (pe_and (pe_callB call_isi (by rfl) T.b_isinstance (by decide +kernel) (pa_cons (pv 0) (pa_cons (pe_bltn (v := .ty "str") (by rfl) T.b_str (by decide +kernel) rfl) pa_nil))) (pe_one (pe_cmpR (op_eqX hr.units) (pv 0) (pv 1) (nomark _)))))))))))

def t__law_numbers (K : PySem.W.Frag) : TS := (tSeq (tAsg (tLst tNil) (gName 1))
    (tSeq (tFor (iX K (tSl (rSlX K) (tVar 0) tNoPart (tPart (tC (.int 63))))) (gName 2) (tIfS (tTest (tOp rGe (tVar 2) (tOp rPow (tC (.int 10)) (tC (.int 18))))) (tSeq (tAsg (tVar 2) (gName 3))
    (tFor (iRng1 (tCons (tC (.int 60)) tNil)) (gName 4) (tSeq (tIfS (tTest (tOp (rEqX K) (tVar 3) (tC (.int 0)))) tBreak tNext)
    (tSeq (tDrop (tBM K "list" rAppend (tVar 1) (tCons (tOp rModI (tCB rIntO (tCons (tVar 3) tNil)) (tC (.int 997))) tNil)))
    (tAsg (tOp rFdv (tVar 3) (tC (.int 997))) (gName 3)))))) (tFor (iRng1 (tCons (tC (.int 4)) tNil)) (gName 4) (tSeq (tAsg (tOp rModI (tCB rIntO (tCons (tOp (rAddX K) (tOp (rAddX K) (tOp (rMulX K) (tVar 2) (tC (.int 48271))) (tOp (rMulX K) (tVar 4) (tC (.int 69621)))) (tC (.int 11))) tNil)) (tC (.int 2147483647))) (gName 5))
    (tDrop (tBM K "list" rAppend (tVar 1) (tCons (tOp rModI (tCB rIntO (tCons (tOp (rAddX K) (tOp (rMulX K) (tVar 5) (tC (.int 16807))) (tVar 4)) tNil)) (tC (.int 2147483629))) tNil)))))))
    (tCut (tIfS (tTest (tOp (rEqX K) (tCB (rLen K) (tCons (tVar 1) tNil)) (tC (.int 0)))) (tDrop (tBM K "list" rAppend (tVar 1) (tCons (tC (.int 0)) tNil))) tNext)
    (tRet (tVar 1)))))
theorem d__law_numbers {E : XK} {f : Addr} {A : Around} {outer : List Env} {s : Shared} {H : Hp} {cdv : Value} (hr : Room 0 (A.deeper (PyProof.Rows.envOfC "_law_numbers" (defScope s__law_numbers) s.heap.objs.size f cdv))) (T : Txt K mg C_BadPages C_Closed C_Crashed C_NoStore C_SpatialError C_TakenDisk C_BadBound fI_BadBound C_BadCut fI_BadCut C_BadLine fI_BadLine C_BadSyntax fI_BadSyntax C_BadValue fI_BadValue C_NoItem fI_NoItem C_NoPage fI_NoPage C_OutOfRange fI_OutOfRange C_TakenKey fI_TakenKey C_TooMany fI_TooMany)  :
    PSs (cxOf CX0 P w K mg base N__law_numbers "_law_numbers" (defScope s__law_numbers) f cdv A outer s H E).nox (defBody s__law_numbers) (t__law_numbers K) :=
  (pss_cons (ps_set (i := 1) sc__law_numbers.nd rfl (Or.inl rfl) (pe_lst pa_nil))
    (pss_cons (ps_for PassesOwn.never rfl (pi_X (pe_slice sl_X (pv 0) po_none (po_some pe_int))) (pg_name (i := 2) sc__law_numbers.nd rfl (Or.inl rfl)) (pss_one (ps_if (pt_cmpR o_ge (pv 2) (pe_op o_pow pe_int pe_int) (nomark _)) (pss_cons (ps_set (i := 3) sc__law_numbers.nd rfl (Or.inl rfl) (pv 2))
    (pss_one (ps_for PassesOwn.never rfl (pi_range1 (by rfl) T.b_range (pa_cons pe_int pa_nil)) (pg_name (i := 4) sc__law_numbers.nd rfl (Or.inl rfl)) (pss_cons (ps_if (pt_cmpR (op_eqX hr.units) (pv 3) pe_int (nomark _)) (pss_one ps_break) pss_nil)
    (pss_cons (ps_expr (pe_bm PySem.F.plainAttrs_list PySem.F.slot_list_append PySem.F.type_list_append mt_append (pv 1) (pa_cons (pe_op o_mod (pe_callTy c_int (by rfl) T.b_int (by decide +kernel) (pa_cons (pv 3) pa_nil)) pe_int) pa_nil)))
    (pss_one (ps_set (i := 3) sc__law_numbers.nd rfl (Or.inl rfl) (pe_op o_fdiv (pv 3) pe_int)))))))) (pss_one (ps_for PassesOwn.never rfl (pi_range1 (by rfl) T.b_range (pa_cons pe_int pa_nil)) (pg_name (i := 4) sc__law_numbers.nd rfl (Or.inl rfl)) (pss_cons (ps_set (i := 5) sc__law_numbers.nd rfl (Or.inl rfl) (pe_op o_mod (pe_callTy c_int (by rfl) T.b_int (by decide +kernel) (pa_cons (pe_op op_addX (pe_op op_addX (pe_op op_mulX (pv 2) pe_int) (pe_op op_mulX (pv 4) pe_int)) pe_int) pa_nil)) pe_int))
    (pss_one (ps_expr (pe_bm PySem.F.plainAttrs_list PySem.F.slot_list_append PySem.F.type_list_append mt_append (pv 1) (pa_cons (pe_op o_mod (pe_callTy c_int (by rfl) T.b_int (by decide +kernel) (pa_cons (pe_op op_addX (pe_op op_mulX (pv 5) pe_int) (pv 4)) pa_nil)) pe_int) pa_nil))))))))))
    (pss_cut (ps_if (pt_cmpR (op_eqX hr.units) (pe_callB c_len (by rfl) T.b_len (by decide +kernel) (pa_cons (pv 1) pa_nil)) pe_int (nomark _)) (pss_one (ps_expr (pe_bm PySem.F.plainAttrs_list PySem.F.slot_list_append PySem.F.type_list_append mt_append (pv 1) (pa_cons pe_int pa_nil)))) pss_nil)
    (pss_one (ps_ret (pv 1))))))

def t__law_draw (K : PySem.W.Frag) : TS := (tSeq (tIfS (tTest (tOp rLt (tVar 1) (tCB (rLen K) (tCons (tVar 0) tNil)))) (tRet (tOp rModI (tCB rIntO (tCons (tOp (rIxX K) (tVar 0) (tVar 1)) tNil)) (tVar 2))) tNext)
    (tSeq (tAsg (tOp rModI (tCB rIntO (tCons (tOp (rAddX K) (tOp (rAddX K) (tOp (rMulX K) (tOp (rIxX K) (tVar 0) (tOp rModI (tCB rIntO (tCons (tVar 1) tNil)) (tCB (rLen K) (tCons (tVar 0) tNil)))) (tC (.int 40692))) (tOp (rMulX K) (tVar 1) (tC (.int 7919)))) (tC (.int 3))) tNil)) (tC (.int 2147483399))) (gName 3))
    (tRet (tOp rModI (tCB rIntO (tCons (tOp rModI (tCB rIntO (tCons (tOp (rAddX K) (tOp (rMulX K) (tVar 3) (tC (.int 48271))) (tVar 1)) tNil)) (tC (.int 2147483647))) tNil)) (tVar 2)))))
theorem d__law_draw {E : XK} {f : Addr} {A : Around} {outer : List Env} {s : Shared} {H : Hp} {cdv : Value} (hr : Room 0 (A.deeper (PyProof.Rows.envOfC "_law_draw" (defScope s__law_draw) s.heap.objs.size f cdv))) (T : Txt K mg C_BadPages C_Closed C_Crashed C_NoStore C_SpatialError C_TakenDisk C_BadBound fI_BadBound C_BadCut fI_BadCut C_BadLine fI_BadLine C_BadSyntax fI_BadSyntax C_BadValue fI_BadValue C_NoItem fI_NoItem C_NoPage fI_NoPage C_OutOfRange fI_OutOfRange C_TakenKey fI_TakenKey C_TooMany fI_TooMany)  :
    PSs (cxOf CX0 P w K mg base N__law_draw "_law_draw" (defScope s__law_draw) f cdv A outer s H E).nox (defBody s__law_draw) (t__law_draw K) :=
  (pss_cons (ps_if (pt_cmpR o_lt (pv 1) (pe_callB c_len (by rfl) T.b_len (by decide +kernel) (pa_cons (pv 0) pa_nil)) (nomark _)) (pss_one (ps_ret (pe_op o_mod (pe_callTy c_int (by rfl) T.b_int (by decide +kernel) (pa_cons (pe_ix ix_X (pv 0) (pv 1) (fun _ _ => rfl)) pa_nil)) (pv 2)))) pss_nil)
    (pss_cons (ps_set (i := 3) sc__law_draw.nd rfl (Or.inl rfl) (pe_op o_mod (pe_callTy c_int (by rfl) T.b_int (by decide +kernel) (pa_cons (pe_op op_addX (pe_op op_addX (pe_op op_mulX (pe_ix ix_X (pv 0) (pe_op o_mod (pe_callTy c_int (by rfl) T.b_int (by decide +kernel) (pa_cons (pv 1) pa_nil)) (pe_callB c_len (by rfl) T.b_len (by decide +kernel) (pa_cons (pv 0) pa_nil))) (fun _ _ => rfl)) pe_int) (pe_op op_mulX (pv 1) pe_int)) pe_int) pa_nil)) pe_int))
    (pss_one (ps_ret (pe_op o_mod (pe_callTy c_int (by rfl) T.b_int (by decide +kernel) (pa_cons (pe_op o_mod (pe_callTy c_int (by rfl) T.b_int (by decide +kernel) (pa_cons (pe_op op_addX (pe_op op_mulX (pv 3) pe_int) (pv 1)) pa_nil)) pe_int) pa_nil)) (pv 2))))))

def t__law_take (K : PySem.W.Frag) (sp__law_draw_ : Sp) : TS := (tSeq (tAsg (tOp (rAddX K) (tOp (rIxX K) (tVar 1) (tC (.int 0))) (tC (.int 1))) (gSub (tVar 1) (tC (.int 0)) rSetL))
    (tRet (tCallO sp__law_draw_ (tCons (tVar 0) (tCons (tOp rSub (tOp (rIxX K) (tVar 1) (tC (.int 0))) (tC (.int 1))) (tCons (tVar 2) tNil))))))
theorem d__law_take {sp__law_draw_ : Sp} {E : XK} {f : Addr} {A : Around} {outer : List Env} {s : Shared} {H : Hp} {cdv : Value} (hr : Room 1 (A.deeper (PyProof.Rows.envOfC "_law_take" (defScope s__law_take) s.heap.objs.size f cdv))) (T : Txt K mg C_BadPages C_Closed C_Crashed C_NoStore C_SpatialError C_TakenDisk C_BadBound fI_BadBound C_BadCut fI_BadCut C_BadLine fI_BadLine C_BadSyntax fI_BadSyntax C_BadValue fI_BadValue C_NoItem fI_NoItem C_NoPage fI_NoPage C_OutOfRange fI_OutOfRange C_TakenKey fI_TakenKey C_TooMany fI_TooMany) (O__law_draw : Ok P w K mg base 1 "_law_draw" ["row", "at", "limit"] sp__law_draw_) :
    PSs (cxOf CX0 P w K mg base N__law_take "_law_take" (defScope s__law_take) f cdv A outer s H E).nox (defBody s__law_take) (t__law_take K sp__law_draw_) :=
  (pss_cons (ps_asg (pe_op op_addX (pe_ix ix_X (pv 1) pe_int (fun _ _ => rfl)) pe_int) (pg_sub (pv 1) pe_int set_list))
    (pss_one (ps_ret (pe_cO O__law_draw (hr.mono (by decide)) rfl (pa_cons (pv 0) (pa_cons (pe_op o_sub (pe_ix ix_X (pv 1) pe_int (fun _ _ => rfl)) pe_int) (pa_cons (pv 2) pa_nil)))))))

def t__law_wide (K : PySem.W.Frag) (sp__law_take_ : Sp) : TS := (tSeq (tAsg (tCallO sp__law_take_ (tCons (tVar 0) (tCons (tVar 1) (tCons (tC (.int 997)) tNil)))) (gName 3))
    (tSeq (tAsg (tCallO sp__law_take_ (tCons (tVar 0) (tCons (tVar 1) (tCons (tC (.int 997)) tNil)))) (gName 4))
    (tSeq (tAsg (tCallO sp__law_take_ (tCons (tVar 0) (tCons (tVar 1) (tCons (tC (.int 997)) tNil)))) (gName 5))
    (tRet (tOp rModI (tCB rIntO (tCons (tOp (rAddX K) (tOp (rAddX K) (tOp (rMulX K) (tVar 3) (tC (.int 994009))) (tOp (rMulX K) (tVar 4) (tC (.int 997)))) (tVar 5)) tNil)) (tVar 2))))))
theorem d__law_wide {sp__law_take_ : Sp} {E : XK} {f : Addr} {A : Around} {outer : List Env} {s : Shared} {H : Hp} {cdv : Value} (hr : Room 2 (A.deeper (PyProof.Rows.envOfC "_law_wide" (defScope s__law_wide) s.heap.objs.size f cdv))) (T : Txt K mg C_BadPages C_Closed C_Crashed C_NoStore C_SpatialError C_TakenDisk C_BadBound fI_BadBound C_BadCut fI_BadCut C_BadLine fI_BadLine C_BadSyntax fI_BadSyntax C_BadValue fI_BadValue C_NoItem fI_NoItem C_NoPage fI_NoPage C_OutOfRange fI_OutOfRange C_TakenKey fI_TakenKey C_TooMany fI_TooMany) (O__law_take : Ok P w K mg base 2 "_law_take" ["row", "spot", "limit"] sp__law_take_) :
    PSs (cxOf CX0 P w K mg base N__law_wide "_law_wide" (defScope s__law_wide) f cdv A outer s H E).nox (defBody s__law_wide) (t__law_wide K sp__law_take_) :=
  (pss_cons (ps_set (i := 3) sc__law_wide.nd rfl (Or.inl rfl) (pe_cO O__law_take (hr.mono (by decide)) rfl (pa_cons (pv 0) (pa_cons (pv 1) (pa_cons pe_int pa_nil)))))
    (pss_cons (ps_set (i := 4) sc__law_wide.nd rfl (Or.inl rfl) (pe_cO O__law_take (hr.mono (by decide)) rfl (pa_cons (pv 0) (pa_cons (pv 1) (pa_cons pe_int pa_nil)))))
    (pss_cons (ps_set (i := 5) sc__law_wide.nd rfl (Or.inl rfl) (pe_cO O__law_take (hr.mono (by decide)) rfl (pa_cons (pv 0) (pa_cons (pv 1) (pa_cons pe_int pa_nil)))))
    (pss_one (ps_ret (pe_op o_mod (pe_callTy c_int (by rfl) T.b_int (by decide +kernel) (pa_cons (pe_op op_addX (pe_op op_addX (pe_op op_mulX (pv 3) pe_int) (pe_op op_mulX (pv 4) pe_int)) (pv 5)) pa_nil)) (pv 2)))))))

def t__law_of (K : PySem.W.Frag) (C_BadValue : Addr) (C_BadCut : Addr) (C_BadBound : Addr) (C_BadSyntax : Addr) (C_BadLine : Addr) (C_NoItem : Addr) (C_TakenKey : Addr) (C_OutOfRange : Addr) (C_NoPage : Addr) (C_TooMany : Addr) (C_BadPages : Addr) (C_Crashed : Addr) (C_NoStore : Addr) (C_TakenDisk : Addr) (C_Closed : Addr) (C_SpatialError : Addr) : TS := (tSeq (tAsg (tLst tNil) (gName 1))
    (tSeq (tFor (iRng1 (tCons (tC (.int 15)) tNil)) (gName 2) (tSeq (tAsg (tLst (tCons (tCB (rIsV K [C_BadValue, C_BadCut, C_BadBound, C_BadSyntax, C_BadLine, C_NoItem, C_TakenKey, C_OutOfRange, C_NoPage, C_TooMany, C_BadPages, C_Crashed, C_NoStore, C_TakenDisk, C_Closed]) (tCons (tVar 0) (tCons (tC (.ref C_BadValue)) tNil))) (tCons (tCB (rIsV K [C_BadValue, C_BadCut, C_BadBound, C_BadSyntax, C_BadLine, C_NoItem, C_TakenKey, C_OutOfRange, C_NoPage, C_TooMany, C_BadPages, C_Crashed, C_NoStore, C_TakenDisk, C_Closed]) (tCons (tVar 0) (tCons (tC (.ref C_BadCut)) tNil))) (tCons (tCB (rIsV K [C_BadValue, C_BadCut, C_BadBound, C_BadSyntax, C_BadLine, C_NoItem, C_TakenKey, C_OutOfRange, C_NoPage, C_TooMany, C_BadPages, C_Crashed, C_NoStore, C_TakenDisk, C_Closed]) (tCons (tVar 0) (tCons (tC (.ref C_BadBound)) tNil))) tNil)))) (gName 3))
    (tSeq (tAsg (tOp (rAddX K) (tVar 3) (tLst (tCons (tCB (rIsV K [C_BadValue, C_BadCut, C_BadBound, C_BadSyntax, C_BadLine, C_NoItem, C_TakenKey, C_OutOfRange, C_NoPage, C_TooMany, C_BadPages, C_Crashed, C_NoStore, C_TakenDisk, C_Closed]) (tCons (tVar 0) (tCons (tC (.ref C_BadSyntax)) tNil))) (tCons (tCB (rIsV K [C_BadValue, C_BadCut, C_BadBound, C_BadSyntax, C_BadLine, C_NoItem, C_TakenKey, C_OutOfRange, C_NoPage, C_TooMany, C_BadPages, C_Crashed, C_NoStore, C_TakenDisk, C_Closed]) (tCons (tVar 0) (tCons (tC (.ref C_BadLine)) tNil))) (tCons (tCB (rIsV K [C_BadValue, C_BadCut, C_BadBound, C_BadSyntax, C_BadLine, C_NoItem, C_TakenKey, C_OutOfRange, C_NoPage, C_TooMany, C_BadPages, C_Crashed, C_NoStore, C_TakenDisk, C_Closed]) (tCons (tVar 0) (tCons (tC (.ref C_NoItem)) tNil))) tNil))))) (gName 3))
    (tSeq (tAsg (tOp (rAddX K) (tVar 3) (tLst (tCons (tCB (rIsV K [C_BadValue, C_BadCut, C_BadBound, C_BadSyntax, C_BadLine, C_NoItem, C_TakenKey, C_OutOfRange, C_NoPage, C_TooMany, C_BadPages, C_Crashed, C_NoStore, C_TakenDisk, C_Closed]) (tCons (tVar 0) (tCons (tC (.ref C_TakenKey)) tNil))) (tCons (tCB (rIsV K [C_BadValue, C_BadCut, C_BadBound, C_BadSyntax, C_BadLine, C_NoItem, C_TakenKey, C_OutOfRange, C_NoPage, C_TooMany, C_BadPages, C_Crashed, C_NoStore, C_TakenDisk, C_Closed]) (tCons (tVar 0) (tCons (tC (.ref C_OutOfRange)) tNil))) (tCons (tCB (rIsV K [C_BadValue, C_BadCut, C_BadBound, C_BadSyntax, C_BadLine, C_NoItem, C_TakenKey, C_OutOfRange, C_NoPage, C_TooMany, C_BadPages, C_Crashed, C_NoStore, C_TakenDisk, C_Closed]) (tCons (tVar 0) (tCons (tC (.ref C_NoPage)) tNil))) tNil))))) (gName 3))
    (tSeq (tAsg (tOp (rAddX K) (tVar 3) (tLst (tCons (tCB (rIsV K [C_BadValue, C_BadCut, C_BadBound, C_BadSyntax, C_BadLine, C_NoItem, C_TakenKey, C_OutOfRange, C_NoPage, C_TooMany, C_BadPages, C_Crashed, C_NoStore, C_TakenDisk, C_Closed]) (tCons (tVar 0) (tCons (tC (.ref C_TooMany)) tNil))) (tCons (tCB (rIsV K [C_BadValue, C_BadCut, C_BadBound, C_BadSyntax, C_BadLine, C_NoItem, C_TakenKey, C_OutOfRange, C_NoPage, C_TooMany, C_BadPages, C_Crashed, C_NoStore, C_TakenDisk, C_Closed]) (tCons (tVar 0) (tCons (tC (.ref C_BadPages)) tNil))) (tCons (tCB (rIsV K [C_BadValue, C_BadCut, C_BadBound, C_BadSyntax, C_BadLine, C_NoItem, C_TakenKey, C_OutOfRange, C_NoPage, C_TooMany, C_BadPages, C_Crashed, C_NoStore, C_TakenDisk, C_Closed]) (tCons (tVar 0) (tCons (tC (.ref C_Crashed)) tNil))) tNil))))) (gName 3))
    (tSeq (tAsg (tOp (rAddX K) (tVar 3) (tLst (tCons (tCB (rIsV K [C_BadValue, C_BadCut, C_BadBound, C_BadSyntax, C_BadLine, C_NoItem, C_TakenKey, C_OutOfRange, C_NoPage, C_TooMany, C_BadPages, C_Crashed, C_NoStore, C_TakenDisk, C_Closed]) (tCons (tVar 0) (tCons (tC (.ref C_NoStore)) tNil))) (tCons (tCB (rIsV K [C_BadValue, C_BadCut, C_BadBound, C_BadSyntax, C_BadLine, C_NoItem, C_TakenKey, C_OutOfRange, C_NoPage, C_TooMany, C_BadPages, C_Crashed, C_NoStore, C_TakenDisk, C_Closed]) (tCons (tVar 0) (tCons (tC (.ref C_TakenDisk)) tNil))) (tCons (tCB (rIsV K [C_BadValue, C_BadCut, C_BadBound, C_BadSyntax, C_BadLine, C_NoItem, C_TakenKey, C_OutOfRange, C_NoPage, C_TooMany, C_BadPages, C_Crashed, C_NoStore, C_TakenDisk, C_Closed]) (tCons (tVar 0) (tCons (tC (.ref C_Closed)) tNil))) tNil))))) (gName 3))
    (tDrop (tBM K "list" rAppend (tVar 1) (tCons (tOp (rIxX K) (tVar 3) (tVar 2)) tNil)))))))))
    (tRet (tVar 1))))
theorem d__law_of {E : XK} {f : Addr} {A : Around} {outer : List Env} {s : Shared} {H : Hp} {cdv : Value} (hr : Room 0 (A.deeper (PyProof.Rows.envOfC "_law_of" (defScope s__law_of) s.heap.objs.size f cdv))) (T : Txt K mg C_BadPages C_Closed C_Crashed C_NoStore C_SpatialError C_TakenDisk C_BadBound fI_BadBound C_BadCut fI_BadCut C_BadLine fI_BadLine C_BadSyntax fI_BadSyntax C_BadValue fI_BadValue C_NoItem fI_NoItem C_NoPage fI_NoPage C_OutOfRange fI_OutOfRange C_TakenKey fI_TakenKey C_TooMany fI_TooMany)  :
    PSs (cxOf CX0 P w K mg base N__law_of "_law_of" (defScope s__law_of) f cdv A outer s H E).nox (defBody s__law_of) (t__law_of K C_BadValue C_BadCut C_BadBound C_BadSyntax C_BadLine C_NoItem C_TakenKey C_OutOfRange C_NoPage C_TooMany C_BadPages C_Crashed C_NoStore C_TakenDisk C_Closed C_SpatialError) :=
  (pss_cons (ps_set (i := 1) sc__law_of.nd rfl (Or.inl rfl) (pe_lst pa_nil))
    (pss_cons (ps_for PassesOwn.never rfl (pi_range1 (by rfl) T.b_range (pa_cons pe_int pa_nil)) (pg_name (i := 2) sc__law_of.nd rfl (Or.inl rfl)) (pss_cons (ps_set (i := 3) sc__law_of.nd rfl (Or.inl rfl) (pe_lst (pa_cons (pe_callB (call_isV T.tab.c2) (by rfl) T.b_isinstance (by decide +kernel) (pa_cons (pv 0) (pa_cons (pe_glob rfl T.e_BadValue.gC rfl) pa_nil))) (pa_cons (pe_callB (call_isV T.tab.c2) (by rfl) T.b_isinstance (by decide +kernel) (pa_cons (pv 0) (pa_cons (pe_glob rfl T.e_BadCut.gC rfl) pa_nil))) (pa_cons (pe_callB (call_isV T.tab.c2) (by rfl) T.b_isinstance (by decide +kernel) (pa_cons (pv 0) (pa_cons (pe_glob rfl T.e_BadBound.gC rfl) pa_nil))) pa_nil)))))
    (pss_cons (ps_set (i := 3) sc__law_of.nd rfl (Or.inl rfl) (pe_op op_addX (pv 3) (pe_lst (pa_cons (pe_callB (call_isV T.tab.c2) (by rfl) T.b_isinstance (by decide +kernel) (pa_cons (pv 0) (pa_cons (pe_glob rfl T.e_BadSyntax.gC rfl) pa_nil))) (pa_cons (pe_callB (call_isV T.tab.c2) (by rfl) T.b_isinstance (by decide +kernel) (pa_cons (pv 0) (pa_cons (pe_glob rfl T.e_BadLine.gC rfl) pa_nil))) (pa_cons (pe_callB (call_isV T.tab.c2) (by rfl) T.b_isinstance (by decide +kernel) (pa_cons (pv 0) (pa_cons (pe_glob rfl T.e_NoItem.gC rfl) pa_nil))) pa_nil))))))
    (pss_cons (ps_set (i := 3) sc__law_of.nd rfl (Or.inl rfl) (pe_op op_addX (pv 3) (pe_lst (pa_cons (pe_callB (call_isV T.tab.c2) (by rfl) T.b_isinstance (by decide +kernel) (pa_cons (pv 0) (pa_cons (pe_glob rfl T.e_TakenKey.gC rfl) pa_nil))) (pa_cons (pe_callB (call_isV T.tab.c2) (by rfl) T.b_isinstance (by decide +kernel) (pa_cons (pv 0) (pa_cons (pe_glob rfl T.e_OutOfRange.gC rfl) pa_nil))) (pa_cons (pe_callB (call_isV T.tab.c2) (by rfl) T.b_isinstance (by decide +kernel) (pa_cons (pv 0) (pa_cons (pe_glob rfl T.e_NoPage.gC rfl) pa_nil))) pa_nil))))))
    (pss_cons (ps_set (i := 3) sc__law_of.nd rfl (Or.inl rfl) (pe_op op_addX (pv 3) (pe_lst (pa_cons (pe_callB (call_isV T.tab.c2) (by rfl) T.b_isinstance (by decide +kernel) (pa_cons (pv 0) (pa_cons (pe_glob rfl T.e_TooMany.gC rfl) pa_nil))) (pa_cons (pe_callB (call_isV T.tab.c2) (by rfl) T.b_isinstance (by decide +kernel) (pa_cons (pv 0) (pa_cons (pe_glob rfl T.n_BadPages.gC rfl) pa_nil))) (pa_cons (pe_callB (call_isV T.tab.c2) (by rfl) T.b_isinstance (by decide +kernel) (pa_cons (pv 0) (pa_cons (pe_glob rfl T.n_Crashed.gC rfl) pa_nil))) pa_nil))))))
    (pss_cons (ps_set (i := 3) sc__law_of.nd rfl (Or.inl rfl) (pe_op op_addX (pv 3) (pe_lst (pa_cons (pe_callB (call_isV T.tab.c2) (by rfl) T.b_isinstance (by decide +kernel) (pa_cons (pv 0) (pa_cons (pe_glob rfl T.n_NoStore.gC rfl) pa_nil))) (pa_cons (pe_callB (call_isV T.tab.c2) (by rfl) T.b_isinstance (by decide +kernel) (pa_cons (pv 0) (pa_cons (pe_glob rfl T.n_TakenDisk.gC rfl) pa_nil))) (pa_cons (pe_callB (call_isV T.tab.c2) (by rfl) T.b_isinstance (by decide +kernel) (pa_cons (pv 0) (pa_cons (pe_glob rfl T.n_Closed.gC rfl) pa_nil))) pa_nil))))))
    (pss_one (ps_expr (pe_bm PySem.F.plainAttrs_list PySem.F.slot_list_append PySem.F.type_list_append mt_append (pv 1) (pa_cons (pe_ix ix_X (pv 3) (pv 2) (fun _ _ => rfl)) pa_nil))))))))))
    (pss_one (ps_ret (pv 1)))))

def t__law_foreign (K : PySem.W.Frag) (C_BadValue : Addr) (C_BadCut : Addr) (C_BadBound : Addr) (C_BadSyntax : Addr) (C_BadLine : Addr) (C_NoItem : Addr) (C_TakenKey : Addr) (C_OutOfRange : Addr) (C_NoPage : Addr) (C_TooMany : Addr) (C_BadPages : Addr) (C_Crashed : Addr) (C_NoStore : Addr) (C_TakenDisk : Addr) (C_Closed : Addr) (C_SpatialError : Addr) : TS := (tSeq (tIfS (tOr (tB (tCB (rIsV K [C_BadValue, C_BadCut, C_BadBound, C_BadSyntax, C_BadLine, C_NoItem, C_TakenKey, C_OutOfRange, C_NoPage, C_TooMany, C_BadPages, C_Crashed, C_NoStore, C_TakenDisk, C_Closed]) (tCons (tVar 0) (tCons (tC (.ty "ValueError")) tNil)))) (tB (tCB (rIsV K [C_BadValue, C_BadCut, C_BadBound, C_BadSyntax, C_BadLine, C_NoItem, C_TakenKey, C_OutOfRange, C_NoPage, C_TooMany, C_BadPages, C_Crashed, C_NoStore, C_TakenDisk, C_Closed]) (tCons (tVar 0) (tCons (tC (.ty "LookupError")) tNil))))) (tRet (tC (.bl true))) tNext)
    (tRet (tOrV (tCB (rIsV K [C_BadValue, C_BadCut, C_BadBound, C_BadSyntax, C_BadLine, C_NoItem, C_TakenKey, C_OutOfRange, C_NoPage, C_TooMany, C_BadPages, C_Crashed, C_NoStore, C_TakenDisk, C_Closed]) (tCons (tVar 0) (tCons (tC (.ty "ArithmeticError")) tNil))) (tNotV (tCB (rIsV K [C_BadValue, C_BadCut, C_BadBound, C_BadSyntax, C_BadLine, C_NoItem, C_TakenKey, C_OutOfRange, C_NoPage, C_TooMany, C_BadPages, C_Crashed, C_NoStore, C_TakenDisk, C_Closed]) (tCons (tVar 0) (tCons (tC (.ty "Exception")) tNil)))))))
theorem d__law_foreign {E : XK} {f : Addr} {A : Around} {outer : List Env} {s : Shared} {H : Hp} {cdv : Value} (hr : Room 0 (A.deeper (PyProof.Rows.envOfC "_law_foreign" (defScope s__law_foreign) s.heap.objs.size f cdv))) (T : Txt K mg C_BadPages C_Closed C_Crashed C_NoStore C_SpatialError C_TakenDisk C_BadBound fI_BadBound C_BadCut fI_BadCut C_BadLine fI_BadLine C_BadSyntax fI_BadSyntax C_BadValue fI_BadValue C_NoItem fI_NoItem C_NoPage fI_NoPage C_OutOfRange fI_OutOfRange C_TakenKey fI_TakenKey C_TooMany fI_TooMany)  :
    PSs (cxOf CX0 P w K mg base N__law_foreign "_law_foreign" (defScope s__law_foreign) f cdv A outer s H E).nox (defBody s__law_foreign) (t__law_foreign K C_BadValue C_BadCut C_BadBound C_BadSyntax C_BadLine C_NoItem C_TakenKey C_OutOfRange C_NoPage C_TooMany C_BadPages C_Crashed C_NoStore C_TakenDisk C_Closed C_SpatialError) :=
  (pss_cons (ps_if (PW.pt (pw_or (pt_val (pe_callB (call_isV T.tab.c2) (by rfl) T.b_isinstance (by decide +kernel) (pa_cons (pv 0) (pa_cons (pe_bltn (v := .ty "ValueError") (by rfl) T.b_ValueError (by decide +kernel) rfl) pa_nil)))) (pw_or1 (pt_val (pe_callB (call_isV T.tab.c2) (by rfl) T.b_isinstance (by decide +kernel) (pa_cons (pv 0) (pa_cons (pe_bltn (v := .ty "LookupError") (by rfl) T.b_LookupError (by decide +kernel) rfl) pa_nil))))))) (pss_one (ps_ret pe_bl)) pss_nil)
    (pss_one (ps_ret (pe_or (pe_callB (call_isV T.tab.c2) (by rfl) T.b_isinstance (by decide +kernel) (pa_cons (pv 0) (pa_cons (pe_bltn (v := .ty "ArithmeticError") (by rfl) T.b_ArithmeticError (by decide +kernel) rfl) pa_nil))) (pe_one (pe_not (pe_callB (call_isV T.tab.c2) (by rfl) T.b_isinstance (by decide +kernel) (pa_cons (pv 0) (pa_cons (pe_bltn (v := .ty "Exception") (by rfl) T.b_Exception (by decide +kernel) rfl) pa_nil)))))))))

def t__law_caught (K : PySem.W.Frag) (C_BadValue : Addr) (C_BadCut : Addr) (C_BadBound : Addr) (C_BadSyntax : Addr) (C_BadLine : Addr) (C_NoItem : Addr) (C_TakenKey : Addr) (C_OutOfRange : Addr) (C_NoPage : Addr) (C_TooMany : Addr) (C_SpatialError : Addr) (C_Crashed : Addr) (C_BadPages : Addr) (C_NoStore : Addr) (C_TakenDisk : Addr) (C_Closed : Addr) (E : XK) : TS := (tTry K C_SpatialError 1 (fun W => (tSeq (tIfS (tTest (tOp (rEqX K) (tVar 0) (tC (.int 0)))) (tRaise0 C_BadPages W) tNext)
    (tSeq (tIfS (tTest (tOp (rEqX K) (tVar 0) (tC (.int 1)))) (tRaise0 C_Crashed W) tNext)
    (Eat.tRaise C_BadValue W (tCons (tVar 0) tNil))))) (fun a cls d => (tRet (tCB (rIsS K [C_BadValue, C_BadCut, C_BadBound, C_BadSyntax, C_BadLine, C_NoItem, C_TakenKey, C_OutOfRange, C_NoPage, C_TooMany, C_BadPages, C_Crashed, C_NoStore, C_TakenDisk, C_Closed] a cls d) (tCons (tVar 1) (tCons (tC (.ref C_BadValue)) tNil))))) (fun _ _ _ _ => False))
theorem d__law_caught {E : XK} {f : Addr} {A : Around} {outer : List Env} {s : Shared} {H : Hp} {cdv : Value} (hr : Room 2 (A.deeper (PyProof.Rows.envOfC "_law_caught" (defScope s__law_caught) s.heap.objs.size f cdv))) (T : Txt K mg C_BadPages C_Closed C_Crashed C_NoStore C_SpatialError C_TakenDisk C_BadBound fI_BadBound C_BadCut fI_BadCut C_BadLine fI_BadLine C_BadSyntax fI_BadSyntax C_BadValue fI_BadValue C_NoItem fI_NoItem C_NoPage fI_NoPage C_OutOfRange fI_OutOfRange C_TakenKey fI_TakenKey C_TooMany fI_TooMany)  :
    PSs (cxOf (L2.CX P w) P w K mg base N__law_caught "_law_caught" (defScope s__law_caught) f cdv A outer s H E) (defBody s__law_caught) (t__law_caught K C_BadValue C_BadCut C_BadBound C_BadSyntax C_BadLine C_NoItem C_TakenKey C_OutOfRange C_NoPage C_TooMany C_SpatialError C_Crashed C_BadPages C_NoStore C_TakenDisk C_Closed E) :=
  (pss_one (ps_try_as (i := 1) (tb := fun W => (tSeq (tIfS (tTest (tOp (rEqX K) (tVar 0) (tC (.int 0)))) (tRaise0 C_BadPages W) tNext)
    (tSeq (tIfS (tTest (tOp (rEqX K) (tVar 0) (tC (.int 1)))) (tRaise0 C_Crashed W) tNext)
    (Eat.tRaise C_BadValue W (tCons (tVar 0) tNil))))) (ts := fun a cls d => (tRet (tCB (rIsS K [C_BadValue, C_BadCut, C_BadBound, C_BadSyntax, C_BadLine, C_NoItem, C_TakenKey, C_OutOfRange, C_NoPage, C_TooMany, C_BadPages, C_Crashed, C_NoStore, C_TakenDisk, C_Closed] a cls d) (tCons (tVar 1) (tCons (tC (.ref C_BadValue)) tNil))))) (Wout := fun _ _ _ _ => False) rfl rfl sc__law_caught.nd rfl rfl ⟨rfl, by decide, Or.inl T.n_SpatialError.gC⟩ takes0 (fun W pn xe tk _ => (pss_cons (ps_if (pt_cmpR (op_eqX hr.units) (pv 0) pe_int (nomark _)) (pss_one (ps_raise0 rfl T.n_BadPages tk rfl)) pss_nil)
    (pss_cons (ps_if (pt_cmpR (op_eqX hr.units) (pv 0) pe_int (nomark _)) (pss_one (ps_raise0 rfl T.n_Crashed tk rfl)) pss_nil)
    (pss_one (Eat.ps rfl T.e_BadValue hr tk (pa_cons (pv 0) pa_nil) rfl))))) (fun a oe cls d pn hz hf => (pss_one (ps_ret (pe_callB (call_isS T.tab.c2 hz hf) (by rfl) T.b_isinstance (by decide +kernel) (pa_cons (pv 1) (pa_cons (pe_glob rfl T.e_BadValue.gC rfl) pa_nil))))))))

def t_law (K : PySem.W.Frag) (C_BadValue : Addr) (C_BadCut : Addr) (C_BadBound : Addr) (C_BadSyntax : Addr) (C_BadLine : Addr) (C_NoItem : Addr) (C_TakenKey : Addr) (C_OutOfRange : Addr) (C_NoPage : Addr) (C_TooMany : Addr) (C_BadPages : Addr) (C_Crashed : Addr) (C_NoStore : Addr) (C_TakenDisk : Addr) (C_Closed : Addr) (C_SpatialError : Addr) (sp__law_caught_ : Sp) (sp__law_foreign_ : Sp) (sp__law_numbers_ : Sp) (sp__law_of_ : Sp) (sp__law_so_ : Sp) (sp__law_take_ : Sp) (sp__law_wide_ : Sp) : TS := (tSeq (tAsg (tCallO sp__law_numbers_ (tCons (tVar 0) tNil)) (gName 1))
    (tSeq (tAsg (tLst (tCons (tC (.int 0)) tNil)) (gName 2))
    (tSeq (tAsg (tOp rSub (tCallO sp__law_take_ (tCons (tVar 1) (tCons (tVar 2) (tCons (tC (.int 997)) tNil)))) (tC (.int 9))) (gName 3))
    (tSeq (tAsg (tCallO sp__law_wide_ (tCons (tVar 1) (tCons (tVar 2) (tCons (tC (.int 991026973)) tNil)))) (gName 4))
    (tSeq (tAsg (tOp (rIxX K) (tLst (tCons (tC (.str "items")) (tCons (tC (.str "pages")) (tCons (tC (.str "")) tNil)))) (tCallO sp__law_take_ (tCons (tVar 1) (tCons (tVar 2) (tCons (tC (.int 3)) tNil))))) (gName 5))
    (tSeq (tAsg (tOp (rIxX K) (tLst (tCons (tC .non) (tCons (tUn rNeg (tVar 4)) (tCons (tVar 5) (tCons (tTup (tCons (tVar 3) tNil)) tNil))))) (tCallO sp__law_take_ (tCons (tVar 1) (tCons (tVar 2) (tCons (tC (.int 4)) tNil))))) (gName 6))
    (tSeq (tAsg (tLst (tCons (Eat.tNew C_BadValue (tCons (tVar 3) tNil)) (tCons (Eat.tNew C_BadCut (tCons (tVar 3) tNil)) (tCons (Eat.tNew C_BadBound (tCons (tVar 3) tNil)) (tCons (Eat.tNew C_BadSyntax (tCons (tVar 3) tNil)) (tCons (Eat.tNew C_BadLine (tCons (tVar 3) tNil)) tNil)))))) (gName 7))
    (tSeq (tAsg (tLst (tCons (Eat.tNew C_BadValue (tCons (tVar 3) tNil)) (tCons (Eat.tNew C_BadCut (tCons (tVar 3) tNil)) (tCons (Eat.tNew C_BadBound (tCons (tVar 3) tNil)) (tCons (Eat.tNew C_BadSyntax (tCons (tVar 3) tNil)) (tCons (Eat.tNew C_BadLine (tCons (tVar 3) tNil)) tNil)))))) (gName 8))
    (tSeq (tFor (iX K (tOp (rAddX K) (tVar 7) (tVar 8))) (gName 9) (tIfS (tNot (tB (tCallO sp__law_so_ (tCons (Eat.tGet [C_BadValue, C_BadCut, C_BadBound, C_BadSyntax, C_BadLine] (tVar 9)) (tCons (tVar 3) tNil))))) (tRet (tC (.bl false))) tNext))
    (tSeq (tAsg (tLst (tCons (Ekey.tNew C_NoItem (tCons (tVar 4) tNil)) (tCons (Ekey.tNew C_TakenKey (tCons (tVar 4) tNil)) (tCons (Ekey.tNew C_OutOfRange (tCons (tVar 4) tNil)) (tCons (Ekey.tNew C_NoItem (tCons (tVar 4) tNil)) (tCons (Ekey.tNew C_TakenKey (tCons (tVar 4) tNil)) (tCons (Ekey.tNew C_OutOfRange (tCons (tVar 4) tNil)) tNil))))))) (gName 10))
    (tSeq (tFor (iX K (tVar 10)) (gName 9) (tIfS (tNot (tB (tCallO sp__law_so_ (tCons (Ekey.tGet [C_NoItem, C_TakenKey, C_OutOfRange] (tVar 9)) (tCons (tVar 4) tNil))))) (tRet (tC (.bl false))) tNext))
    (tSeq (tIfS (tOr (tNot (tB (tCallO sp__law_so_ (tCons (Enumber.tGet [C_NoPage] (Enumber.tNew C_NoPage (tCons (tVar 6) tNil))) (tCons (tVar 6) tNil))))) (tNot (tB (tCallO sp__law_so_ (tCons (Enumber.tGet [C_NoPage] (Enumber.tNew C_NoPage (tCons (tVar 4) tNil))) (tCons (tVar 4) tNil)))))) (tRet (tC (.bl false))) tNext)
    (tSeq (tIfS (tOr (tNot (tB (tCallO sp__law_so_ (tCons (Eword.tGet [C_TooMany] (Eword.tNew C_TooMany (tCons (tVar 5) tNil))) (tCons (tVar 5) tNil))))) (tNot (tB (tCallO sp__law_so_ (tCons (Eword.tGet [C_TooMany] (Eword.tNew C_TooMany (tCons (tC (.str "x")) tNil))) (tCons (tC (.str "x")) tNil)))))) (tRet (tC (.bl false))) tNext)
    (tSeq (tAsg (tOp (rAddX K) (tOp (rAddX K) (tVar 7) (tSl (rSlX K) (tVar 10) tNoPart (tPart (tC (.int 3))))) (tLst (tCons (Enumber.tNew C_NoPage (tCons (tVar 6) tNil)) (tCons (Eword.tNew C_TooMany (tCons (tVar 5) tNil)) (tCons (tNew0 C_BadPages) (tCons (tNew0 C_Crashed) (tCons (tNew0 C_NoStore) (tCons (tNew0 C_TakenDisk) (tCons (tNew0 C_Closed) tNil))))))))) (gName 11))
    (tSeq (tFor (iRng1 (tCons (tCB (rLen K) (tCons (tVar 11) tNil)) tNil)) (gName 12) (tSeq (tIfS (tOr (tTest (tOp (rNeX K) (tCallO sp__law_of_ (tCons (tOp (rIxX K) (tVar 11) (tVar 12)) tNil)) (tLc (iRng1 (tCons (tC (.int 15)) tNil)) (gName 13) tYes (tOp (rEqX K) (tVar 13) (tVar 12)) [13]))) (tB (tCallO sp__law_foreign_ (tCons (tOp (rIxX K) (tVar 11) (tVar 12)) tNil)))) (tRet (tC (.bl false))) tNext)
    (tIfS (tNot (tB (tCB (rIsV K [C_BadValue, C_BadCut, C_BadBound, C_BadSyntax, C_BadLine, C_NoItem, C_TakenKey, C_OutOfRange, C_NoPage, C_TooMany, C_BadPages, C_Crashed, C_NoStore, C_TakenDisk, C_Closed]) (tCons (tOp (rIxX K) (tVar 11) (tVar 12)) (tCons (tC (.ref C_SpatialError)) tNil))))) (tRet (tC (.bl false))) tNext)))
    (tRet (tAndV (tNotV (tCallO sp__law_caught_ (tCons (tC (.int 0)) tNil))) (tAndV (tNotV (tCallO sp__law_caught_ (tCons (tC (.int 1)) tNil))) (tCallO sp__law_caught_ (tCons (tOp (rAddX K) (tC (.int 2)) (tCallO sp__law_take_ (tCons (tVar 1) (tCons (tVar 2) (tCons (tC (.int 9)) tNil))))) tNil))))))))))))))))))))
theorem d_law {sp__law_caught_ : Sp} {sp__law_foreign_ : Sp} {sp__law_numbers_ : Sp} {sp__law_of_ : Sp} {sp__law_so_ : Sp} {sp__law_take_ : Sp} {sp__law_wide_ : Sp} {E : XK} {f : Addr} {A : Around} {outer : List Env} {s : Shared} {H : Hp} {cdv : Value} (hr : Room 4 (A.deeper (PyProof.Rows.envOfC "law" (defScope s_law) s.heap.objs.size f cdv))) (T : Txt K mg C_BadPages C_Closed C_Crashed C_NoStore C_SpatialError C_TakenDisk C_BadBound fI_BadBound C_BadCut fI_BadCut C_BadLine fI_BadLine C_BadSyntax fI_BadSyntax C_BadValue fI_BadValue C_NoItem fI_NoItem C_NoPage fI_NoPage C_OutOfRange fI_OutOfRange C_TakenKey fI_TakenKey C_TooMany fI_TooMany) (O__law_caught : OkX P w K mg base 3 "_law_caught" ["at"] sp__law_caught_) (O__law_foreign : Ok P w K mg base 1 "_law_foreign" ["value"] sp__law_foreign_) (O__law_numbers : Ok P w K mg base 1 "_law_numbers" ["script"] sp__law_numbers_) (O__law_of : Ok P w K mg base 1 "_law_of" ["value"] sp__law_of_) (O__law_so : Ok P w K mg base 4 "_law_so" ["found", "meant"] sp__law_so_) (O__law_take : Ok P w K mg base 2 "_law_take" ["row", "spot", "limit"] sp__law_take_) (O__law_wide : Ok P w K mg base 3 "_law_wide" ["row", "spot", "limit"] sp__law_wide_) :
    PSs (cxOf CX0 P w K mg base N_law "law" (defScope s_law) f cdv A outer s H E).nox (defBody s_law) (t_law K C_BadValue C_BadCut C_BadBound C_BadSyntax C_BadLine C_NoItem C_TakenKey C_OutOfRange C_NoPage C_TooMany C_BadPages C_Crashed C_NoStore C_TakenDisk C_Closed C_SpatialError sp__law_caught_ sp__law_foreign_ sp__law_numbers_ sp__law_of_ sp__law_so_ sp__law_take_ sp__law_wide_) :=
  (pss_cons (ps_set (i := 1) sc_law.nd rfl (Or.inl rfl) (pe_cO O__law_numbers (hr.mono (by decide)) rfl (pa_cons (pv 0) pa_nil)))
    (pss_cons (ps_set (i := 2) sc_law.nd rfl (Or.inl rfl) (pe_lst (pa_cons pe_int pa_nil)))
    (pss_cons (ps_set (i := 3) sc_law.nd rfl (Or.inl rfl) (pe_op o_sub (pe_cO O__law_take (hr.mono (by decide)) rfl (pa_cons (pv 1) (pa_cons (pv 2) (pa_cons pe_int pa_nil)))) pe_int))
    (pss_cons (ps_set (i := 4) sc_law.nd rfl (Or.inl rfl) (pe_cO O__law_wide (hr.mono (by decide)) rfl (pa_cons (pv 1) (pa_cons (pv 2) (pa_cons pe_int pa_nil)))))
    (pss_cons (ps_set (i := 5) sc_law.nd rfl (Or.inl rfl) (pe_ix ix_X (pe_lst (pa_cons pe_str (pa_cons pe_str (pa_cons pe_str pa_nil)))) (pe_cO O__law_take (hr.mono (by decide)) rfl (pa_cons (pv 1) (pa_cons (pv 2) (pa_cons pe_int pa_nil)))) (fun _ _ => rfl)))
    (pss_cons (ps_set (i := 6) sc_law.nd rfl (Or.inl rfl) (pe_ix ix_X (pe_lst (pa_cons pe_non (pa_cons (pe_un u_neg (pv 4)) (pa_cons (pv 5) (pa_cons (pe_tup (pa_cons (pv 3) pa_nil)) pa_nil))))) (pe_cO O__law_take (hr.mono (by decide)) rfl (pa_cons (pv 1) (pa_cons (pv 2) (pa_cons pe_int pa_nil)))) (fun _ _ => rfl)))
    (pss_cons (ps_set (i := 7) sc_law.nd rfl (Or.inl rfl) (pe_lst (pa_cons (Eat.pe_new T.e_BadValue hr (pa_cons (pv 3) pa_nil) rfl) (pa_cons (Eat.pe_new T.e_BadCut hr (pa_cons (pv 3) pa_nil) rfl) (pa_cons (Eat.pe_new T.e_BadBound hr (pa_cons (pv 3) pa_nil) rfl) (pa_cons (Eat.pe_new T.e_BadSyntax hr (pa_cons (pv 3) pa_nil) rfl) (pa_cons (Eat.pe_new T.e_BadLine hr (pa_cons (pv 3) pa_nil) rfl) pa_nil)))))))
    (pss_cons (ps_set (i := 8) sc_law.nd rfl (Or.inl rfl) (pe_lst (pa_cons (Eat.pe_newK T.e_BadValue hr (pk_cons (pv 3) pk_nil) rfl) (pa_cons (Eat.pe_newK T.e_BadCut hr (pk_cons (pv 3) pk_nil) rfl) (pa_cons (Eat.pe_newK T.e_BadBound hr (pk_cons (pv 3) pk_nil) rfl) (pa_cons (Eat.pe_newK T.e_BadSyntax hr (pk_cons (pv 3) pk_nil) rfl) (pa_cons (Eat.pe_newK T.e_BadLine hr (pk_cons (pv 3) pk_nil) rfl) pa_nil)))))))
    (pss_cons (ps_for PassesOwn.never rfl (pi_X (pe_op op_addX (pv 7) (pv 8))) (pg_name (i := 9) sc_law.nd rfl (Or.inl rfl)) (pss_one (ps_if (pt_not (pt_val (pe_cO O__law_so (hr.mono (by decide)) rfl (pa_cons (Eat.pe_get (ball_cons ⟨_, _, _, T.e_BadValue⟩ (ball_cons ⟨_, _, _, T.e_BadCut⟩ (ball_cons ⟨_, _, _, T.e_BadBound⟩ (ball_cons ⟨_, _, _, T.e_BadSyntax⟩ (ball_cons ⟨_, _, _, T.e_BadLine⟩ ball_nil))))) (pv 9)) (pa_cons (pv 3) pa_nil))))) (pss_one (ps_ret pe_bl)) pss_nil)))
    (pss_cons (ps_set (i := 10) sc_law.nd rfl (Or.inl rfl) (pe_lst (pa_cons (Ekey.pe_new T.e_NoItem hr (pa_cons (pv 4) pa_nil) rfl) (pa_cons (Ekey.pe_new T.e_TakenKey hr (pa_cons (pv 4) pa_nil) rfl) (pa_cons (Ekey.pe_new T.e_OutOfRange hr (pa_cons (pv 4) pa_nil) rfl) (pa_cons (Ekey.pe_newK T.e_NoItem hr (pk_cons (pv 4) pk_nil) rfl) (pa_cons (Ekey.pe_newK T.e_TakenKey hr (pk_cons (pv 4) pk_nil) rfl) (pa_cons (Ekey.pe_newK T.e_OutOfRange hr (pk_cons (pv 4) pk_nil) rfl) pa_nil))))))))
    (pss_cons (ps_for PassesOwn.never rfl (pi_X (pv 10)) (pg_name (i := 9) sc_law.nd rfl (Or.inl rfl)) (pss_one (ps_if (pt_not (pt_val (pe_cO O__law_so (hr.mono (by decide)) rfl (pa_cons (Ekey.pe_get (ball_cons ⟨_, _, _, T.e_NoItem⟩ (ball_cons ⟨_, _, _, T.e_TakenKey⟩ (ball_cons ⟨_, _, _, T.e_OutOfRange⟩ ball_nil))) (pv 9)) (pa_cons (pv 4) pa_nil))))) (pss_one (ps_ret pe_bl)) pss_nil)))
    (pss_cons (ps_if (PW.pt (pw_or (pt_not (pt_val (pe_cO O__law_so (hr.mono (by decide)) rfl (pa_cons (Enumber.pe_get (ball_cons ⟨_, _, _, T.e_NoPage⟩ ball_nil) (Enumber.pe_new T.e_NoPage hr (pa_cons (pv 6) pa_nil) rfl)) (pa_cons (pv 6) pa_nil))))) (pw_or1 (pt_not (pt_val (pe_cO O__law_so (hr.mono (by decide)) rfl (pa_cons (Enumber.pe_get (ball_cons ⟨_, _, _, T.e_NoPage⟩ ball_nil) (Enumber.pe_newK T.e_NoPage hr (pk_cons (pv 4) pk_nil) rfl)) (pa_cons (pv 4) pa_nil)))))))) (pss_one (ps_ret pe_bl)) pss_nil)
    (pss_cons (ps_if (PW.pt (pw_or (pt_not (pt_val (pe_cO O__law_so (hr.mono (by decide)) rfl (pa_cons (Eword.pe_get (ball_cons ⟨_, _, _, T.e_TooMany⟩ ball_nil) (Eword.pe_new T.e_TooMany hr (pa_cons (pv 5) pa_nil) rfl)) (pa_cons (pv 5) pa_nil))))) (pw_or1 (pt_not (pt_val (pe_cO O__law_so (hr.mono (by decide)) rfl (pa_cons (Eword.pe_get (ball_cons ⟨_, _, _, T.e_TooMany⟩ ball_nil) (Eword.pe_newK T.e_TooMany hr (pk_cons pe_str pk_nil) rfl)) (pa_cons pe_str pa_nil)))))))) (pss_one (ps_ret pe_bl)) pss_nil)
    (pss_cons (ps_set (i := 11) sc_law.nd rfl (Or.inl rfl) (pe_op op_addX (pe_op op_addX (pv 7) (pe_slice sl_X (pv 10) po_none (po_some pe_int))) (pe_lst (pa_cons (Enumber.pe_new T.e_NoPage hr (pa_cons (pv 6) pa_nil) rfl) (pa_cons (Eword.pe_new T.e_TooMany hr (pa_cons (pv 5) pa_nil) rfl) (pa_cons (pe_newN T.n_BadPages rfl) (pa_cons (pe_newN T.n_Crashed rfl) (pa_cons (pe_newN T.n_NoStore rfl) (pa_cons (pe_newN T.n_TakenDisk rfl) (pa_cons (pe_newN T.n_Closed rfl) pa_nil))))))))))
    (pss_cons (ps_for PassesOwn.never rfl (pi_range1 (by rfl) T.b_range (pa_cons (pe_callB c_len (by rfl) T.b_len (by decide +kernel) (pa_cons (pv 11) pa_nil)) pa_nil)) (pg_name (i := 12) sc_law.nd rfl (Or.inr rfl)) (pss_cons (ps_if (PW.pt (pw_or (pt_cmpR (op_neX hr.units) (pe_cO O__law_of (hr.mono (by decide)) rfl (pa_cons (pe_ix ix_X (pv 11) (pv 12) (fun _ _ => rfl)) pa_nil)) (pe_lc (own := [("one", 13)]) (g := (gName 13)) (tt := tYes) (te := (tOp (rEqX K) (tVar 13) (tVar 12))) rfl sc_law.nd (pi_range1 (by rfl) T.b_range (pa_cons pe_int pa_nil)) (blkOk_by (N := N_law) (sc := defScope s_law) (own := [("one", 13)]) (by decide +kernel)) (fun _ _ _ _ _ => (pg_name (i := 13) sc_law.nd rfl (Or.inl rfl))) (fun _ _ _ _ _ => pts_nil) (fun _ _ _ _ _ => (pe_cmpR (op_eqX hr.units) (pv 13) (pv 12) (nomark _)))) (nomark _)) (pw_or1 (pt_val (pe_cO O__law_foreign (hr.mono (by decide)) rfl (pa_cons (pe_ix ix_X (pv 11) (pv 12) (fun _ _ => rfl)) pa_nil)))))) (pss_one (ps_ret pe_bl)) pss_nil)
    (pss_one (ps_if (pt_not (pt_val (pe_callB (call_isV T.tab.c2) (by rfl) T.b_isinstance (by decide +kernel) (pa_cons (pe_ix ix_X (pv 11) (pv 12) (fun _ _ => rfl)) (pa_cons (pe_glob rfl T.n_SpatialError.gC rfl) pa_nil))))) (pss_one (ps_ret pe_bl)) pss_nil))))
    (pss_one (ps_ret (pe_and (pe_not (pe_cX O__law_caught (hr.mono (by decide)) rfl (pa_cons pe_int pa_nil))) (pe_and (pe_not (pe_cX O__law_caught (hr.mono (by decide)) rfl (pa_cons pe_int pa_nil))) (pe_one (pe_cX O__law_caught (hr.mono (by decide)) rfl (pa_cons (pe_op op_addX pe_int (pe_cO O__law_take (hr.mono (by decide)) rfl (pa_cons (pv 1) (pa_cons (pv 2) (pa_cons pe_int pa_nil))))) pa_nil))))))))))))))))))))))

/-! ### the law's own draws -/
def sp__law_draw : Sp := fun vs H Q _ => ∃ (p : Addr) (rs : List Int) (at_ lim : Int), vs = [.ref p, .int at_, .int lim] ∧ H p = some (.lst (rs.map V.int)) ∧ rs ≠ [] ∧ 0 ≤ at_ ∧ 0 < lim ∧ ∀ r, 0 ≤ r → r < lim → Q (.int r) H
theorem ok__law_draw {f : Addr} {fd : FuncData} (F : Fun K "_law_draw" "_law_draw" s__law_draw f fd) (T : Txt K mg C_BadPages C_Closed C_Crashed C_NoStore C_SpatialError C_TakenDisk C_BadBound fI_BadBound C_BadCut fI_BadCut C_BadLine fI_BadLine C_BadSyntax fI_BadSyntax C_BadValue fI_BadValue C_NoItem fI_NoItem C_NoPage fI_NoPage C_OutOfRange fI_OutOfRange C_TakenKey fI_TakenKey C_TooMany fI_TooMany)  : FnOk P w K mg base CX0 1 f fd ["row", "at", "limit"] sp__law_draw := by
  refine F.ok sc__law_draw (fun vs H Q E h => ?_) (fun cdv A outer s H vs Q E hr h => ?_)
  · obtain ⟨p, rs, a, l, rfl, _⟩ := h
    rfl
  · obtain ⟨p, rs, a, l, rfl, hp, hne, ha, hl, k⟩ := h
    refine ⟨_, d__law_draw hr T , ?_⟩
    unfold t__law_draw
    have hpos : 0 < rs.length := List.length_pos_iff.mpr hne
    have hm : (rs.map V.int).length = rs.length := List.length_map ..
    refine x_start (σ' := [some (.ref p), some (.int a), some (.int l), none]) rfl ?_
    walk_at "sts"
    refine x_lenL hp ?_
    walk_at "sts"
    rw [hm]
    refine x_dec (fun h1 => ?_) (fun h1 => ?_)
    · walk_at "sts"
      have hj : a.toNat < rs.length := by omega
      refine x_ixL (v := .int rs[a.toNat]) hp (at_of (j := a.toNat) (by omega) (ints_at (List.getElem?_eq_getElem hj))) ?_
      walk_at "sts"
      refine x_mod hl ?_
      exact k _ (Int.emod_nonneg _ (by omega)) (Int.emod_lt_of_pos _ hl)
    · walk_at "sts"
      refine x_lenL hp ?_
      rw [hm]
      refine x_mod (by omega) ?_
      have h0 : 0 ≤ a % (rs.length : Int) := Int.emod_nonneg _ (by omega)
      have h2 : a % (rs.length : Int) < rs.length := Int.emod_lt_of_pos _ (by omega)
      have hj : (a % (rs.length : Int)).toNat < rs.length := by omega
      refine x_ixL (v := .int rs[(a % (rs.length : Int)).toNat]) hp (at_of (j := (a % (rs.length : Int)).toNat) (by omega) (ints_at (List.getElem?_eq_getElem hj))) ?_
      walk_at "sts"
      refine x_mulI (cmulR (by decide) (by decide)) ?_
      walk_at "sts"
      refine x_mulI (cmulR (by decide) (by decide)) ?_
      walk_at "sts"
      refine x_mod (by decide) ?_
      walk_at "sts"
      refine x_mulI (cmulR (by decide) (by decide)) ?_
      walk_at "sts"
      refine x_mod (by decide) ?_
      walk_at "sts"
      refine x_mod hl ?_
      exact k _ (Int.emod_nonneg _ (by omega)) (Int.emod_lt_of_pos _ hl)
theorem x_draw {p : Addr} {rs : List Int} {a l : Int} {H : Hp} {Q : VK} {E : XK} (hp : H p = some (.lst (rs.map V.int))) (hne : rs ≠ []) (ha : 0 ≤ a) (hl : 0 < l) (q : ∀ r, 0 ≤ r → r < l → Q (.int r) H) : sp__law_draw [.ref p, .int a, .int l] H Q E :=
  ⟨p, rs, a, l, rfl, hp, hne, ha, hl, q⟩
def sp__law_take : Sp := fun vs H Q _ => ∃ (row sp : Addr) (lim : Int), vs = [.ref row, .ref sp, .int lim] ∧ Wd H row sp ∧ 0 < lim ∧ ∀ r H', 0 ≤ r → r < lim → Kp [sp] H H' → Wd H' row sp → Q (.int r) H'
theorem x_take {row sp : Addr} {l : Int} {H : Hp} {Q : VK} {E : XK} (W : Wd H row sp) (hl : 0 < l) (q : ∀ r H', 0 ≤ r → r < l → Kp [sp] H H' → Wd H' row sp → Q (.int r) H') : sp__law_take [.ref row, .ref sp, .int l] H Q E :=
  ⟨row, sp, l, rfl, W, hl, q⟩
theorem ok__law_take {f : Addr} {fd : FuncData} (F : Fun K "_law_take" "_law_take" s__law_take f fd) (T : Txt K mg C_BadPages C_Closed C_Crashed C_NoStore C_SpatialError C_TakenDisk C_BadBound fI_BadBound C_BadCut fI_BadCut C_BadLine fI_BadLine C_BadSyntax fI_BadSyntax C_BadValue fI_BadValue C_NoItem fI_NoItem C_NoPage fI_NoPage C_OutOfRange fI_OutOfRange C_TakenKey fI_TakenKey C_TooMany fI_TooMany) (O__law_draw : Ok P w K mg base 1 "_law_draw" ["row", "at", "limit"] (sp__law_draw)) : FnOk P w K mg base CX0 2 f fd ["row", "spot", "limit"] sp__law_take := by
  refine F.ok sc__law_take (fun vs H Q E h => ?_) (fun cdv A outer s H vs Q E hr h => ?_)
  · obtain ⟨p, rs, a, rfl, _⟩ := h
    rfl
  · obtain ⟨row, sp, l, rfl, W, hl, k⟩ := h
    obtain ⟨⟨s, rs, h0, hs, hrow, hne, hlen⟩, ne⟩ := id W
    refine ⟨_, d__law_take hr T O__law_draw, ?_⟩
    unfold t__law_take
    refine x_start (σ' := [some (.ref row), some (.ref sp), some (.int l)]) rfl ?_
    walk_at "sts"
    refine x_ixL hs (v := .int s) (by rfl) ?_
    walk_at "sts"
    refine x_setL hs (m := 0) (by rfl) ?_
    walk_at "sts"
    refine x_ixL upd_same (v := .int (s + 1)) (by rfl) ?_
    walk_at "sts"
    refine x_draw (upd_get' ne hrow) hne (by omega) hl fun r r0 r1 => ?_
    exact k r _ r0 r1 (Kp.refl.mut (List.mem_singleton.mpr rfl)) ⟨⟨s + 1, rs, by omega, upd_same, upd_get' ne hrow, hne, hlen⟩, ne⟩
def sp__law_wide : Sp := fun vs H Q _ => ∃ (row sp : Addr) (lim : Int), vs = [.ref row, .ref sp, .int lim] ∧ Wd H row sp ∧ 0 < lim ∧ ∀ r H', 0 ≤ r → r < lim → Kp [sp] H H' → Wd H' row sp → Q (.int r) H'
theorem x_wide {row sp : Addr} {l : Int} {H : Hp} {Q : VK} {E : XK} (W : Wd H row sp) (hl : 0 < l) (q : ∀ r H', 0 ≤ r → r < l → Kp [sp] H H' → Wd H' row sp → Q (.int r) H') : sp__law_wide [.ref row, .ref sp, .int l] H Q E :=
  ⟨row, sp, l, rfl, W, hl, q⟩
theorem ok__law_wide {f : Addr} {fd : FuncData} (F : Fun K "_law_wide" "_law_wide" s__law_wide f fd) (T : Txt K mg C_BadPages C_Closed C_Crashed C_NoStore C_SpatialError C_TakenDisk C_BadBound fI_BadBound C_BadCut fI_BadCut C_BadLine fI_BadLine C_BadSyntax fI_BadSyntax C_BadValue fI_BadValue C_NoItem fI_NoItem C_NoPage fI_NoPage C_OutOfRange fI_OutOfRange C_TakenKey fI_TakenKey C_TooMany fI_TooMany) (O__law_take : Ok P w K mg base 2 "_law_take" ["row", "spot", "limit"] (sp__law_take)) : FnOk P w K mg base CX0 3 f fd ["row", "spot", "limit"] sp__law_wide := by
  refine F.ok sc__law_wide (fun vs H Q E h => ?_) (fun cdv A outer s H vs Q E hr h => ?_)
  · obtain ⟨p, rs, a, rfl, _⟩ := h
    rfl
  · obtain ⟨row, sp, l, rfl, W, hl, k⟩ := h
    refine ⟨_, d__law_wide hr T O__law_take, ?_⟩
    unfold t__law_wide
    refine x_start (σ' := [some (.ref row), some (.ref sp), some (.int l), none, none, none]) rfl ?_
    walk_at "sts"
    refine x_take W (by decide) fun r1 H1 a1 b1 k1 W1 => ?_
    walk_at "sts"
    refine x_take W1 (by decide) fun r2 H2 a2 b2 k2 W2 => ?_
    walk_at "sts"
    refine x_take W2 (by decide) fun r3 H3 a3 b3 k3 W3 => ?_
    walk_at "sts"
    refine x_mulI (cmulR (by decide) (by decide)) ?_
    walk_at "sts"
    refine x_mulI (cmulR (by decide) (by decide)) ?_
    walk_at "sts"
    refine x_mod hl ?_
    exact k _ _ (Int.emod_nonneg _ (by omega)) (Int.emod_lt_of_pos _ hl) ((k1.trans k2).trans k3) W3
theorem cut_map (ns : List Int) (lo hi : Option Int) : ∃ ms : List Int, cutV (ns.map V.int) lo hi = ms.map V.int ∧ ms.length ≤ ns.length := by
  refine ⟨(ns.drop (HT.sIx (ns.map V.int).length 0 lo)).take (HT.sIx (ns.map V.int).length (ns.map V.int).length hi - HT.sIx (ns.map V.int).length 0 lo), ?_, ?_⟩
  · unfold cutV
    rw [List.map_take, List.map_drop]
  · rw [List.length_take, List.length_drop]
    omega
def sp__law_numbers (K : PySem.W.Frag) : Sp := fun vs H Q _ => ∃ (a : Addr) (ns : List Int), vs = [.ref a] ∧ SqL K H a (ns.map V.int) ∧ ns.length ≤ 63 ∧ ∀ p H' (rs : List Int), Same H H' → H p = none → H' p = some (.lst (rs.map V.int)) → rs ≠ [] → rs.length ≤ 4000 → Q (.ref p) H'
theorem ok__law_numbers {f : Addr} {fd : FuncData} (F : Fun K "_law_numbers" "_law_numbers" s__law_numbers f fd) (T : Txt K mg C_BadPages C_Closed C_Crashed C_NoStore C_SpatialError C_TakenDisk C_BadBound fI_BadBound C_BadCut fI_BadCut C_BadLine fI_BadLine C_BadSyntax fI_BadSyntax C_BadValue fI_BadValue C_NoItem fI_NoItem C_NoPage fI_NoPage C_OutOfRange fI_OutOfRange C_TakenKey fI_TakenKey C_TooMany fI_TooMany)  : FnOk P w K mg base CX0 1 f fd ["script"] (sp__law_numbers K) := by
  refine F.ok sc__law_numbers (fun vs H Q E h => ?_) (fun cdv A outer s H vs Q E hr h => ?_)
  · obtain ⟨a, ns, rfl, _⟩ := h
    rfl
  · obtain ⟨a, ns, rfl, ha, hl, k⟩ := h
    refine ⟨_, d__law_numbers hr T , ?_⟩
    unfold t__law_numbers
    refine x_start (σ' := [some (.ref a), none, none, none, none, none]) rfl ?_
    walk_at "sts"
    refine x_mkl rfl (by decide) fun p hp => ?_
    walk_at "sts"
    have s1 : Same H (upd H p (.lst [])) := Same.new (Same.refl H) hp
    refine x_slL (s1.seq ha) fun c hc => ?_
    obtain ⟨ms, em, lm⟩ := cut_map ns none (some 63)
    rw [em]
    have pc : p ≠ c := Ne.symm (new_ne hc upd_same)
    have s2 : Same H (upd (upd H p (.lst [])) c (.lst (ms.map V.int))) := Same.new s1 hc
    have hc0 : H c = none := Same.none s1 hc
    refine x_loopL (xs := ms.map V.int) (SqL.of upd_same) (fun i σ H' => ∃ (rs : List Int) (x2 x3 x4 x5 : Option V), σ = [some (.ref a), some (.ref p), x2, x3, x4, x5] ∧ Same H H' ∧ H' p = some (.lst (rs.map V.int)) ∧ rs.length ≤ 60 * i ∧ H' c = some (.lst (ms.map V.int))) ?_ ?_ ?_ ?_
    · exact ⟨[], none, none, none, none, rfl, s2, upd_get hc upd_same, by simp, upd_same⟩
    · rintro i σ H' _ ⟨rs, x2, x3, x4, x5, rfl, h1, h2, h3, h4⟩
      exact SqL.of h4
    · rintro i x σ H' hx ⟨rs, x2, x3, x4, x5, rfl, h1, h2, h3, h4⟩
      obtain ⟨z, hz, rfl⟩ : ∃ z, ms[i]? = some z ∧ x = V.int z := by
        rw [List.getElem?_map] at hx
        cases e : ms[i]? with
        | none => rw [e] at hx; cases hx
        | some z => rw [e] at hx; exact ⟨z, rfl, (Option.some.inj hx).symm⟩
      have hi : i < 63 := by
        have := (List.getElem?_eq_some_iff.mp hz).1
        omega
      walk_at "sts"
      refine x_pow (by decide) ?_
      walk_at "sts"
      refine x_dec (fun g1 => ?_) (fun g1 => ?_)
      · walk_at "sts"
        refine x_rng 60 (by decide) rfl ?_
        refine x_loopR (fun j σ H2 => ∃ (rs : List Int) (l : Int) (x4 x5 : Option V), σ = [some (.ref a), some (.ref p), some (.int z), some (.int l), x4, x5] ∧ Same H H2 ∧ H2 p = some (.lst (rs.map V.int)) ∧ rs.length ≤ 60 * i + j ∧ H2 c = some (.lst (ms.map V.int))) ?_ ?_ ?_
        · exact ⟨rs, z, x4, x5, rfl, h1, h2, by omega, h4⟩
        · rintro j σ H2 hj ⟨rs, l, x4, x5, rfl, h1, h2, h3, h4⟩
          walk_at "sts"
          refine x_dec (fun g2 => ?_) (fun g2 => ?_)
          · walk_at "sts"
            exact ⟨rs, _, _, _, _, rfl, h1, h2, by omega, h4⟩
          · walk_at "sts"
            refine x_bmL h2 ?_
            walk_at "sts"
            refine x_mod (by decide) ?_
            walk_at "sts"
            refine x_app h2 (szl (by rw [List.length_map]; omega)) ?_
            walk_at "sts"
            refine x_fdv (by decide) ?_
            walk_at "sts"
            rw [map_snoc]
            exact ⟨_, _, _, _, rfl, Same.own h1 hp, upd_same, by simp; omega, upd_get' (Ne.symm pc) h4⟩
        · rintro σ H2 ⟨rs, l, x4, x5, rfl, h1, h2, h3, h4⟩
          exact ⟨rs, _, _, _, _, rfl, h1, h2, by omega, h4⟩
      · walk_at "sts"
        refine x_rng 4 (by decide) rfl ?_
        refine x_loopR (fun j σ H2 => ∃ (rs : List Int) (x3 x4 x5 : Option V), σ = [some (.ref a), some (.ref p), some (.int z), x3, x4, x5] ∧ Same H H2 ∧ H2 p = some (.lst (rs.map V.int)) ∧ rs.length ≤ 60 * i + j ∧ H2 c = some (.lst (ms.map V.int))) ?_ ?_ ?_
        · exact ⟨rs, x3, x4, x5, rfl, h1, h2, by omega, h4⟩
        · rintro j σ H2 hj ⟨rs, x3, x4, x5, rfl, h1, h2, h3, h4⟩
          walk_at "sts"
          refine x_mulI (cmulR (by decide) (by decide)) ?_
          walk_at "sts"
          refine x_mulI (cmulR (by decide) (by decide)) ?_
          walk_at "sts"
          refine x_mod (by decide) ?_
          walk_at "sts"
          refine x_bmL h2 ?_
          walk_at "sts"
          refine x_mulI (cmulR (by decide) (by decide)) ?_
          walk_at "sts"
          refine x_mod (by decide) ?_
          walk_at "sts"
          refine x_app h2 (szl (by rw [List.length_map]; omega)) ?_
          walk_at "sts"
          rw [map_snoc]
          exact ⟨_, _, _, _, rfl, Same.own h1 hp, upd_same, by simp; omega, upd_get' (Ne.symm pc) h4⟩
        · rintro σ H2 ⟨rs, x3, x4, x5, rfl, h1, h2, h3, h4⟩
          exact ⟨rs, _, _, _, _, rfl, h1, h2, by omega, h4⟩
    · rintro σ H' ⟨rs, x2, x3, x4, x5, rfl, h1, h2, h3, h4⟩
      rw [List.length_map] at h3
      refine x_cut (fun σ2 H2 => ∃ (rs : List Int), σ2 = [some (.ref a), some (.ref p), x2, x3, x4, x5] ∧ Same H H2 ∧ H2 p = some (.lst (rs.map V.int)) ∧ rs ≠ [] ∧ rs.length ≤ 4000) ?_ ?_
      · walk_at "sts"
        refine x_lenL h2 ?_
        walk_at "sts"
        rw [List.length_map]
        refine x_dec (fun g => ?_) (fun g => ?_)
        · have e : rs = [] := List.length_eq_zero_iff.mp (by omega)
          subst e
          walk_at "sts"
          refine x_bmL h2 ?_
          walk_at "sts"
          refine x_app h2 (szl (by simp)) ?_
          walk_at "sts"
          exact ⟨[0], rfl, Same.own h1 hp, upd_same, by simp, by simp⟩
        · walk_at "sts"
          exact ⟨rs, rfl, h1, h2, fun z => g (by rw [z]; rfl), by omega⟩
      · rintro σ2 H2 ⟨rs2, rfl, g1, g2, g3, g4⟩
        walk_at "sts"
        exact k p _ rs2 g1 hp g2 g3 g4
/-! ### so -/
theorem fn_void {f : Addr} {fd : FuncData} {ps : List Str} {sp : Sp} {k : Nat} (h : ∀ vs H Q E, ¬ sp vs H Q E) : FnOk P w K mg base CX0 k f fd ps sp :=
  ⟨fun vs H Q E z => (h vs H Q E z).elim, fun A outer s H args us vs Q E hr e0 hb r z => (h vs H Q E z).elim⟩
def sp__law_so (n : Nat) : Sp := fun vs H Q _ => ∃ (sp : List Addr) (v u : V) (d : Da), vs = [v, u] ∧ Rp sp H v d ∧ Rp sp H u d ∧ Dn n d ∧ Q (.bl true) H
theorem x_so {n : Nat} {H : Hp} {Q : VK} {E : XK} {sp : List Addr} {v u : V} {d : Da} (h1 : Rp sp H v d) (h2 : Rp sp H u d) (hn : Dn n d) (q : Q (.bl true) H) : sp__law_so n [v, u] H Q E := ⟨sp, v, u, d, rfl, h1, h2, hn, q⟩
theorem ok__law_so {f : Addr} {fd : FuncData} (F : Fun K "_law_so" "_law_so" s__law_so f fd) (T : Txt K mg C_BadPages C_Closed C_Crashed C_NoStore C_SpatialError C_TakenDisk C_BadBound fI_BadBound C_BadCut fI_BadCut C_BadLine fI_BadLine C_BadSyntax fI_BadSyntax C_BadValue fI_BadValue C_NoItem fI_NoItem C_NoPage fI_NoPage C_OutOfRange fI_OutOfRange C_TakenKey fI_TakenKey C_TooMany fI_TooMany) (n : Nat) (O__law_so : Ok P w K mg base n "_law_so" ["found", "meant"] (sp__law_so n)) : FnOk P w K mg base CX0 (n + 1) f fd ["found", "meant"] (sp__law_so (n + 1)) := by
  refine F.ok sc__law_so (fun vs H Q E h => ?_) (fun cdv A outer s H vs Q E hr h => ?_)
  · obtain ⟨sp, v, u, d, rfl, _⟩ := h
    rfl
  · obtain ⟨sp, v, u, d, rfl, h1, h2, hn, k⟩ := h
    refine ⟨_, d__law_so hr T O__law_so, ?_⟩
    unfold t__law_so
    refine x_start (σ' := [some v, some u, none]) rfl ?_
    walk_at "sts"
    cases hn with
    | non =>
      cases h1.nonI; cases h2.nonI
      refine x_dec (fun _ => ?_) (fun z => absurd rfl z)
      walk_at "sts"
      rw [decide_eq_true rfl]
      exact k
    | bl b =>
      cases h1.blI; cases h2.blI
      refine x_dec (fun z => nomatch z) (fun _ => ?_)
      walk_at "sts"
      refine x_isaB h2 (by decide) (b := false) (by walk_at "isa") ?_
      walk_at "sts"
      refine x_isaB h2 (by decide) (b := true) (by walk_at "isa") ?_
      walk_at "sts"
      refine x_isaB h2 (by decide) (b := true) (by walk_at "isa") ?_
      walk_at "sts"
      refine x_isaB h1 (by decide) (b := true) (by walk_at "isa") ?_
      walk_at "sts"
      exact x_eqR rfl k
    | int i =>
      cases h1.intI; cases h2.intI
      refine x_dec (fun z => nomatch z) (fun _ => ?_)
      walk_at "sts"
      refine x_isaB h2 (by decide) (b := false) (by walk_at "isa") ?_
      walk_at "sts"
      refine x_isaB h2 (by decide) (b := false) (by walk_at "isa") ?_
      walk_at "sts"
      refine x_isaB h1 (by decide) (b := false) (by walk_at "isa") ?_
      walk_at "sts"
      refine x_isaB h2 (by decide) (b := true) (by walk_at "isa") ?_
      walk_at "sts"
      refine x_isaB h1 (by decide) (b := true) (by walk_at "isa") ?_
      walk_at "st"
      walk_at "st"
      walk_at "st"
      walk_at "st"
      walk_at "st"
      exact x_eqR rfl k
    | str x =>
      cases h1.strI; cases h2.strI
      refine x_dec (fun z => nomatch z) (fun _ => ?_)
      walk_at "sts"
      refine x_isaB h2 (by decide) (b := false) (by walk_at "isa") ?_
      walk_at "sts"
      refine x_isaB h2 (by decide) (b := false) (by walk_at "isa") ?_
      walk_at "sts"
      refine x_isaB h1 (by decide) (b := false) (by walk_at "isa") ?_
      walk_at "sts"
      refine x_isaB h2 (by decide) (b := false) (by walk_at "isa") ?_
      walk_at "sts"
      refine x_isaB h2 (by decide) (b := true) (by walk_at "isa") ?_
      walk_at "sts"
      refine x_isaB h1 (by decide) (b := true) (by walk_at "isa") ?_
      walk_at "sts"
      exact x_eqR rfl k
    | @tup _ ds hb hd =>
      obtain ⟨a1, xs, rfl, n1, e1, r1⟩ := h1.tupI
      obtain ⟨a2, ys, rfl, n2, e2, r2⟩ := h2.tupI
      refine x_dec (fun z => nomatch z) (fun _ => ?_)
      walk_at "sts"
      refine x_isaB h2 (by decide) (b := true) (by walk_at "isa") ?_
      walk_at "sts"
      refine x_isaB h1 (by decide) (b := true) (by walk_at "isa") ?_
      walk_at "sts"
      refine x_lenT e1 ?_
      walk_at "sts"
      refine x_lenT e2 ?_
      walk_at "sts"
      rw [r1.1, r2.1]
      refine x_ndec (fun z => absurd rfl z) (fun _ => ?_)
      walk_at "sts"
      refine x_lenT e2 ?_
      walk_at "sts"
      rw [r2.1]
      · refine x_rng ds.length (Nat.le_trans hb (by decide)) rfl ?_
        refine x_loopR (fun i σ H' => ∃ x, σ = [some (.ref a1), some (.ref a2), x] ∧ H' = H) ⟨none, rfl, rfl⟩ ?_ ?_
        · rintro i σ H' hi ⟨x, rfl, rfl⟩
          obtain ⟨y1, g1, p1⟩ := rps_get r1 (List.getElem?_eq_getElem hi)
          obtain ⟨y2, g2, p2⟩ := rps_get r2 (List.getElem?_eq_getElem hi)
          walk_at "sts"
          refine x_ixT e1 (at_of (j := i) rfl g1) ?_
          walk_at "sts"
          refine x_ixT e2 (at_of (j := i) rfl g2) ?_
          walk_at "sts"
          refine x_so p1 p2 (hd _ (List.getElem_mem hi)) ?_
          walk_at "sts"
          exact ⟨_, rfl, rfl⟩
        · rintro σ H' ⟨x, rfl, rfl⟩
          walk_at "sts"
          exact k
theorem rok__law_so {f : Addr} {fd : FuncData} (F : Fun K "_law_so" "_law_so" s__law_so f fd) (T : Txt K mg C_BadPages C_Closed C_Crashed C_NoStore C_SpatialError C_TakenDisk C_BadBound fI_BadBound C_BadCut fI_BadCut C_BadLine fI_BadLine C_BadSyntax fI_BadSyntax C_BadValue fI_BadValue C_NoItem fI_NoItem C_NoPage fI_NoPage C_OutOfRange fI_OutOfRange C_TakenKey fI_TakenKey C_TooMany fI_TooMany) (m : mg "_law_so" = some (.ref f)) (b : Binds K fd ["found", "meant"] []) : ∀ n, Ok P w K mg base n "_law_so" ["found", "meant"] (sp__law_so n)
  | 0 => ⟨f, fd, fn_void fun vs H Q E ⟨sp, v, u, d, _, _, _, hn, _⟩ => (nomatch hn), m, F.kp, b⟩
  | n + 1 => ⟨f, fd, ok__law_so F T n (rok__law_so F T m b n), m, F.kp, b⟩
/-! ### lists of truth values; errors -/
theorem eqv_bls : ∀ a : List Bool, PyData.eqvAll (a.map .bool) (a.map .bool) = true
  | [] => by simp [PyData.eqvAll]
  | x :: a => by
    show PyData.eqvAll (.bool x :: a.map .bool) (.bool x :: a.map .bool) = true
    rw [PyData.eqvAll, eqv_bls a, PyData.eqv]
    simp
theorem lay_bls : ∀ a : List Bool, PyData.canLayAll0 (a.map .bool) = true
  | [] => by simp [PyData.canLayAll0]
  | x :: a => by
    show PyData.canLayAll0 (.bool x :: a.map .bool) = true
    rw [PyData.canLayAll0, lay_bls a]
    simp [PyData.canLay0]
theorem depth_bls : ∀ a : List Bool, PyData.depthAll (a.map .bool) = 0
  | [] => by simp [PyData.depthAll]
  | x :: a => by
    show PyData.depthAll (.bool x :: a.map .bool) = 0
    rw [PyData.depthAll, depth_bls a]
    simp [PyData.depth]
theorem shaped_bls (a : List Bool) : SeqAt.shaped (.list (a.map .bool)) = true := by
  unfold SeqAt.shaped
  rw [PyData.canLay0, lay_bls, PyData.depth, depth_bls]
  decide
theorem dp_bls {H : Hp} : ∀ a : List Bool, DpAll K H (a.map V.bl) (a.map .bool)
  | [] => .nil
  | x :: a => .cons (.bl x) (dp_bls a)
theorem x_neB {H : Hp} {Q : VK} {p q : Addr} {a : List Bool} (h1 : H p = some (.lst (a.map V.bl))) (h2 : H q = some (.lst (a.map V.bl))) (k : Q (.bl false) H) : rNeX K (.ref p) (.ref q) H Q := by
  refine .inr ⟨_, _, .lst (SqL.of h1) (dp_bls a), .lst (SqL.of h2) (dp_bls a), shaped_bls a, shaped_bls a, ?_⟩
  rw [PyData.eqv, eqv_bls]
  exact k
theorem kit_own {Cs : List Addr} {S C D : Addr} {i j : Nat} (T : KitT K Cs S) (hi : Cs[i]? = some C) (hj : Cs[j]? = some D) : PySem.W.kitOne K (.ref C) (.ref D) = some (i == j) := by
  have z := T.own i j (List.getElem?_eq_some_iff.mp hi).1 (List.getElem?_eq_some_iff.mp hj).1
  rw [List.getD_eq_getElem?_getD, List.getD_eq_getElem?_getD, hi, hj] at z
  exact z
theorem x_newA {C : Addr} {i : Nat} {v : V} {σ : L2.St} {H : Hp} {Q : VK} (hi : σ[i]? = some (some v)) (q : ∀ v' H', Same H H' → ErF H' v' C "at" v → Q v' H') : Eat.tNew C (tCons (tVar i) tNil) σ H Q := ⟨v, hi, v, rfl, new_ok (Q := Q) q⟩
theorem x_getA {C : Addr} {Cs : List Addr} {i : Nat} {v u : V} {σ : L2.St} {H : Hp} {Q : VK} (hi : σ[i]? = some (some v)) (h : ErF H v C "at" u) (hC : C ∈ Cs) (q : Q u H) : Eat.tGet Cs (tVar i) σ H Q := ⟨v, hi, get_of (Q := Q) (g := fun _ => True) h hC q⟩
theorem x_gnA {C : Addr} {Cs : List Addr} {i : Nat} {v : V} {σ : L2.St} {H : Hp} {Q : VK} (hi : σ[i]? = some (some v)) (hC : C ∈ Cs) (q : ∀ H', Same H H' → Q v H') : Eat.tGet Cs (Eat.tNew C (tCons (tVar i) tNil)) σ H Q :=
  x_newA (Q := fun x H1 => ∃ (a C d : Addr) (v : V), x = .ref a ∧ C ∈ Cs ∧ H1 a = some (ExV C (some d) a) ∧ H1 d = some (.xd [(("at" : Str), v)]) ∧ Q v H1) hi fun v' H' s e => get_of (Q := Q) (g := fun _ => True) e hC (q H' s)
theorem x_gcA {C : Addr} {Cs : List Addr} {v : V} {σ : L2.St} {H : Hp} {Q : VK} (hC : C ∈ Cs) (q : ∀ H', Same H H' → Q v H') : Eat.tGet Cs (Eat.tNew C (tCons (tC v) tNil)) σ H Q :=
  ⟨v, rfl, new_ok (Q := fun x H1 => ∃ (a C d : Addr) (v : V), x = .ref a ∧ C ∈ Cs ∧ H1 a = some (ExV C (some d) a) ∧ H1 d = some (.xd [(("at" : Str), v)]) ∧ Q v H1) fun v' H' s e => get_of (Q := Q) (g := fun _ => True) e hC (q H' s)⟩
theorem x_newK {C : Addr} {i : Nat} {v : V} {σ : L2.St} {H : Hp} {Q : VK} (hi : σ[i]? = some (some v)) (q : ∀ v' H', Same H H' → ErF H' v' C "key" v → Q v' H') : Ekey.tNew C (tCons (tVar i) tNil) σ H Q := ⟨v, hi, v, rfl, new_ok (Q := Q) q⟩
theorem x_getK {C : Addr} {Cs : List Addr} {i : Nat} {v u : V} {σ : L2.St} {H : Hp} {Q : VK} (hi : σ[i]? = some (some v)) (h : ErF H v C "key" u) (hC : C ∈ Cs) (q : Q u H) : Ekey.tGet Cs (tVar i) σ H Q := ⟨v, hi, get_of (Q := Q) (g := fun _ => True) h hC q⟩
theorem x_gnK {C : Addr} {Cs : List Addr} {i : Nat} {v : V} {σ : L2.St} {H : Hp} {Q : VK} (hi : σ[i]? = some (some v)) (hC : C ∈ Cs) (q : ∀ H', Same H H' → Q v H') : Ekey.tGet Cs (Ekey.tNew C (tCons (tVar i) tNil)) σ H Q :=
  x_newK (Q := fun x H1 => ∃ (a C d : Addr) (v : V), x = .ref a ∧ C ∈ Cs ∧ H1 a = some (ExV C (some d) a) ∧ H1 d = some (.xd [(("key" : Str), v)]) ∧ Q v H1) hi fun v' H' s e => get_of (Q := Q) (g := fun _ => True) e hC (q H' s)
theorem x_gcK {C : Addr} {Cs : List Addr} {v : V} {σ : L2.St} {H : Hp} {Q : VK} (hC : C ∈ Cs) (q : ∀ H', Same H H' → Q v H') : Ekey.tGet Cs (Ekey.tNew C (tCons (tC v) tNil)) σ H Q :=
  ⟨v, rfl, new_ok (Q := fun x H1 => ∃ (a C d : Addr) (v : V), x = .ref a ∧ C ∈ Cs ∧ H1 a = some (ExV C (some d) a) ∧ H1 d = some (.xd [(("key" : Str), v)]) ∧ Q v H1) fun v' H' s e => get_of (Q := Q) (g := fun _ => True) e hC (q H' s)⟩
theorem x_newN {C : Addr} {i : Nat} {v : V} {σ : L2.St} {H : Hp} {Q : VK} (hi : σ[i]? = some (some v)) (q : ∀ v' H', Same H H' → ErF H' v' C "number" v → Q v' H') : Enumber.tNew C (tCons (tVar i) tNil) σ H Q := ⟨v, hi, v, rfl, new_ok (Q := Q) q⟩
theorem x_getN {C : Addr} {Cs : List Addr} {i : Nat} {v u : V} {σ : L2.St} {H : Hp} {Q : VK} (hi : σ[i]? = some (some v)) (h : ErF H v C "number" u) (hC : C ∈ Cs) (q : Q u H) : Enumber.tGet Cs (tVar i) σ H Q := ⟨v, hi, get_of (Q := Q) (g := fun _ => True) h hC q⟩
theorem x_gnN {C : Addr} {Cs : List Addr} {i : Nat} {v : V} {σ : L2.St} {H : Hp} {Q : VK} (hi : σ[i]? = some (some v)) (hC : C ∈ Cs) (q : ∀ H', Same H H' → Q v H') : Enumber.tGet Cs (Enumber.tNew C (tCons (tVar i) tNil)) σ H Q :=
  x_newN (Q := fun x H1 => ∃ (a C d : Addr) (v : V), x = .ref a ∧ C ∈ Cs ∧ H1 a = some (ExV C (some d) a) ∧ H1 d = some (.xd [(("number" : Str), v)]) ∧ Q v H1) hi fun v' H' s e => get_of (Q := Q) (g := fun _ => True) e hC (q H' s)
theorem x_gcN {C : Addr} {Cs : List Addr} {v : V} {σ : L2.St} {H : Hp} {Q : VK} (hC : C ∈ Cs) (q : ∀ H', Same H H' → Q v H') : Enumber.tGet Cs (Enumber.tNew C (tCons (tC v) tNil)) σ H Q :=
  ⟨v, rfl, new_ok (Q := fun x H1 => ∃ (a C d : Addr) (v : V), x = .ref a ∧ C ∈ Cs ∧ H1 a = some (ExV C (some d) a) ∧ H1 d = some (.xd [(("number" : Str), v)]) ∧ Q v H1) fun v' H' s e => get_of (Q := Q) (g := fun _ => True) e hC (q H' s)⟩
theorem x_newW {C : Addr} {i : Nat} {v : V} {σ : L2.St} {H : Hp} {Q : VK} (hi : σ[i]? = some (some v)) (q : ∀ v' H', Same H H' → ErF H' v' C "word" v → Q v' H') : Eword.tNew C (tCons (tVar i) tNil) σ H Q := ⟨v, hi, v, rfl, new_ok (Q := Q) q⟩
theorem x_getW {C : Addr} {Cs : List Addr} {i : Nat} {v u : V} {σ : L2.St} {H : Hp} {Q : VK} (hi : σ[i]? = some (some v)) (h : ErF H v C "word" u) (hC : C ∈ Cs) (q : Q u H) : Eword.tGet Cs (tVar i) σ H Q := ⟨v, hi, get_of (Q := Q) (g := fun _ => True) h hC q⟩
theorem x_gnW {C : Addr} {Cs : List Addr} {i : Nat} {v : V} {σ : L2.St} {H : Hp} {Q : VK} (hi : σ[i]? = some (some v)) (hC : C ∈ Cs) (q : ∀ H', Same H H' → Q v H') : Eword.tGet Cs (Eword.tNew C (tCons (tVar i) tNil)) σ H Q :=
  x_newW (Q := fun x H1 => ∃ (a C d : Addr) (v : V), x = .ref a ∧ C ∈ Cs ∧ H1 a = some (ExV C (some d) a) ∧ H1 d = some (.xd [(("word" : Str), v)]) ∧ Q v H1) hi fun v' H' s e => get_of (Q := Q) (g := fun _ => True) e hC (q H' s)
theorem x_gcW {C : Addr} {Cs : List Addr} {v : V} {σ : L2.St} {H : Hp} {Q : VK} (hC : C ∈ Cs) (q : ∀ H', Same H H' → Q v H') : Eword.tGet Cs (Eword.tNew C (tCons (tC v) tNil)) σ H Q :=
  ⟨v, rfl, new_ok (Q := fun x H1 => ∃ (a C d : Addr) (v : V), x = .ref a ∧ C ∈ Cs ∧ H1 a = some (ExV C (some d) a) ∧ H1 d = some (.xd [(("word" : Str), v)]) ∧ Q v H1) fun v' H' s e => get_of (Q := Q) (g := fun _ => True) e hC (q H' s)⟩
/-- xs are errors of the classes cs, in their order -/
def Ers (H : Hp) (xs : List V) (cs : List Addr) : Prop := xs.length = cs.length ∧ ∀ (i : Nat) x C, xs[i]? = some x → cs[i]? = some C → Er H x C
def ErsF (H : Hp) (xs : List V) (cs : List Addr) (f : Str) (u : V) : Prop := xs.length = cs.length ∧ ∀ (i : Nat) x C, xs[i]? = some x → cs[i]? = some C → ErF H x C f u
theorem ErsF.nil {H : Hp} {f : Str} {u : V} : ErsF H [] [] f u := ⟨rfl, fun i x C h => by simp at h⟩
theorem ErsF.cons {H : Hp} {f : Str} {u v : V} {C : Addr} {xs : List V} {cs : List Addr} (h : ErF H v C f u) (t : ErsF H xs cs f u) : ErsF H (v :: xs) (C :: cs) f u := ⟨by simp [t.1], fun i x D h1 h2 => by
  cases i with
  | zero => cases h1; cases h2; exact h
  | succ i => exact t.2 i x D h1 h2⟩
theorem Ers.nil {H : Hp} : Ers H [] [] := ⟨rfl, fun i x C h => by simp at h⟩
theorem Ers.cons {H : Hp} {v : V} {C : Addr} {xs : List V} {cs : List Addr} (h : Er H v C) (t : Ers H xs cs) : Ers H (v :: xs) (C :: cs) := ⟨by simp [t.1], fun i x D h1 h2 => by
  cases i with
  | zero => cases h1; cases h2; exact h
  | succ i => exact t.2 i x D h1 h2⟩
theorem Ers.same {H H1 : Hp} {xs : List V} {cs : List Addr} (h : Ers H xs cs) (s : Same H H1) : Ers H1 xs cs := ⟨h.1, fun i x C a b => (h.2 i x C a b).same s⟩
theorem Ers.at {H : Hp} {xs : List V} {cs : List Addr} {i : Nat} {x : V} (h : Ers H xs cs) (e : xs[i]? = some x) : ∃ C, cs[i]? = some C ∧ Er H x C := by
  have hi : i < cs.length := by rw [← h.1]; exact (List.getElem?_eq_some_iff.mp e).1
  exact ⟨cs[i], List.getElem?_eq_getElem hi, h.2 i x _ e (List.getElem?_eq_getElem hi)⟩
theorem ErsF.at {H : Hp} {xs : List V} {cs : List Addr} {f : Str} {u : V} {i : Nat} {x : V} (h : ErsF H xs cs f u) (e : xs[i]? = some x) : ∃ C, cs[i]? = some C ∧ ErF H x C f u := by
  have hi : i < cs.length := by rw [← h.1]; exact (List.getElem?_eq_some_iff.mp e).1
  exact ⟨cs[i], List.getElem?_eq_getElem hi, h.2 i x _ e (List.getElem?_eq_getElem hi)⟩
/-- which of fifteen it is -/
def oneOf (i : Nat) : List Bool := (List.range 15).map fun j => i == j
theorem x_mklS {xs : List V} {m : Nat} {H : Hp} {Q : VK} (hm : xs.length = m) (h : m ≤ 100000) (q : ∀ p H', Same H H' → H' p = some (.lst xs) → Q (.ref p) H') : mkL xs H Q := x_mkl hm h fun p hp => q p _ (Same.new (Same.refl _) hp) upd_same
theorem x_addLS {xs ys : List V} {H : Hp} {Q : VK} {p b : Addr} (h1 : H p = some (.lst xs)) (h2 : H b = some (.lst ys)) (h : xs.length + ys.length ≤ 100000) (q : ∀ a H', Same H H' → H' a = some (.lst (xs ++ ys)) → Q (.ref a) H') : rAddX K (.ref p) (.ref b) H Q :=
  x_addL h1 h2 (sz h) fun a ha => q a _ (Same.new (Same.refl _) ha) upd_same
def sp__law_of (Cs : List Addr) : Sp := fun vs H Q _ => ∃ (v : V) (i : Nat) (C : Addr), vs = [v] ∧ Cs[i]? = some C ∧ Er H v C ∧ ∀ p H', Same H H' → H' p = some (.lst ((oneOf i).map V.bl)) → Q (.ref p) H'
theorem one_take {i k : Nat} (hk : k < 15) : ((List.range k).map fun j => V.bl (i == j)) ++ [V.bl (i == k)] = (List.range (k + 1)).map fun j => V.bl (i == j) := by
  rw [List.range_succ, List.map_append]
  rfl
theorem one_at {i k : Nat} (hk : k < 15) : [V.bl (i == 0), V.bl (i == 1), V.bl (i == 2), V.bl (i == 3), V.bl (i == 4), V.bl (i == 5), V.bl (i == 6), V.bl (i == 7), V.bl (i == 8), V.bl (i == 9), V.bl (i == 10), V.bl (i == 11), V.bl (i == 12), V.bl (i == 13), V.bl (i == 14)][k]? = some (V.bl (i == k)) := by
  have e : [V.bl (i == 0), V.bl (i == 1), V.bl (i == 2), V.bl (i == 3), V.bl (i == 4), V.bl (i == 5), V.bl (i == 6), V.bl (i == 7), V.bl (i == 8), V.bl (i == 9), V.bl (i == 10), V.bl (i == 11), V.bl (i == 12), V.bl (i == 13), V.bl (i == 14)] = (List.range 15).map fun j => V.bl (i == j) := rfl
  rw [e, List.getElem?_map, List.getElem?_range hk]
  rfl
theorem ok__law_of {f : Addr} {fd : FuncData} (F : Fun K "_law_of" "_law_of" s__law_of f fd) (T : Txt K mg C_BadPages C_Closed C_Crashed C_NoStore C_SpatialError C_TakenDisk C_BadBound fI_BadBound C_BadCut fI_BadCut C_BadLine fI_BadLine C_BadSyntax fI_BadSyntax C_BadValue fI_BadValue C_NoItem fI_NoItem C_NoPage fI_NoPage C_OutOfRange fI_OutOfRange C_TakenKey fI_TakenKey C_TooMany fI_TooMany)  : FnOk P w K mg base CX0 1 f fd ["value"] (sp__law_of [C_BadValue, C_BadCut, C_BadBound, C_BadSyntax, C_BadLine, C_NoItem, C_TakenKey, C_OutOfRange, C_NoPage, C_TooMany, C_BadPages, C_Crashed, C_NoStore, C_TakenDisk, C_Closed]) := by
  refine F.ok sc__law_of (fun vs H Q E h => ?_) (fun cdv A outer s H vs Q E hr h => ?_)
  · obtain ⟨v, i, C, rfl, _⟩ := h
    rfl
  · obtain ⟨v, i, C, rfl, hi, hv, k⟩ := h
    refine ⟨_, d__law_of hr T , ?_⟩
    have hm := List.mem_of_getElem? hi
    unfold t__law_of
    refine x_start (σ' := [some v, none, none, none]) rfl ?_
    walk_at "sts"
    refine x_mkl rfl (by decide) fun p hp => ?_
    walk_at "sts"
    refine x_rng 15 (by decide) rfl ?_
    refine x_loopR (fun j σ H' => ∃ x2 x3 : Option V, σ = [some v, some (.ref p), x2, x3] ∧ Same H H' ∧ H' p = some (.lst ((List.range j).map fun j => V.bl (i == j)))) ?_ ?_ ?_
    · exact ⟨none, none, rfl, Same.new (Same.refl _) hp, upd_same⟩
    · rintro j σ H1 hj ⟨x2, x3, rfl, s1, e1⟩
      have hv1 := hv.same s1
      walk_at "sts"
      refine x_isV hv1 hm rel_ref (kit_own T.tab hi (j := 0) rfl) ?_
      walk_at "sts"
      refine x_isV hv1 hm rel_ref (kit_own T.tab hi (j := 1) rfl) ?_
      walk_at "sts"
      refine x_isV hv1 hm rel_ref (kit_own T.tab hi (j := 2) rfl) ?_
      walk_at "sts"
      refine x_mklS (m := 3) rfl (by decide) fun a0 F0 t0 h0 => ?_
      walk_at "sts"
      have q1 := hv1.same t0
      have w1 := s1.trans t0
      have c1 := h0
      refine x_isV q1 hm rel_ref (kit_own T.tab hi (j := 3) rfl) ?_
      walk_at "sts"
      refine x_isV q1 hm rel_ref (kit_own T.tab hi (j := 4) rfl) ?_
      walk_at "sts"
      refine x_isV q1 hm rel_ref (kit_own T.tab hi (j := 5) rfl) ?_
      walk_at "sts"
      refine x_mklS (m := 3) rfl (by decide) fun a1 F1 t1 h1 => ?_
      walk_at "sts"
      refine x_addLS (t1 _ _ c1) h1 (Nat.le_of_ble_eq_true rfl) fun b1 G2 u1 c2 => ?_
      walk_at "sts"
      have q2 := (q1.same t1).same u1
      have w2 := (w1.trans t1).trans u1
      refine x_isV q2 hm rel_ref (kit_own T.tab hi (j := 6) rfl) ?_
      walk_at "sts"
      refine x_isV q2 hm rel_ref (kit_own T.tab hi (j := 7) rfl) ?_
      walk_at "sts"
      refine x_isV q2 hm rel_ref (kit_own T.tab hi (j := 8) rfl) ?_
      walk_at "sts"
      refine x_mklS (m := 3) rfl (by decide) fun a2 F2 t2 h2 => ?_
      walk_at "sts"
      refine x_addLS (t2 _ _ c2) h2 (Nat.le_of_ble_eq_true rfl) fun b2 G3 u2 c3 => ?_
      walk_at "sts"
      have q3 := (q2.same t2).same u2
      have w3 := (w2.trans t2).trans u2
      refine x_isV q3 hm rel_ref (kit_own T.tab hi (j := 9) rfl) ?_
      walk_at "sts"
      refine x_isV q3 hm rel_ref (kit_own T.tab hi (j := 10) rfl) ?_
      walk_at "sts"
      refine x_isV q3 hm rel_ref (kit_own T.tab hi (j := 11) rfl) ?_
      walk_at "sts"
      refine x_mklS (m := 3) rfl (by decide) fun a3 F3 t3 h3 => ?_
      walk_at "sts"
      refine x_addLS (t3 _ _ c3) h3 (Nat.le_of_ble_eq_true rfl) fun b3 G4 u3 c4 => ?_
      walk_at "sts"
      have q4 := (q3.same t3).same u3
      have w4 := (w3.trans t3).trans u3
      refine x_isV q4 hm rel_ref (kit_own T.tab hi (j := 12) rfl) ?_
      walk_at "sts"
      refine x_isV q4 hm rel_ref (kit_own T.tab hi (j := 13) rfl) ?_
      walk_at "sts"
      refine x_isV q4 hm rel_ref (kit_own T.tab hi (j := 14) rfl) ?_
      walk_at "sts"
      refine x_mklS (m := 3) rfl (by decide) fun a4 F4 t4 h4 => ?_
      walk_at "sts"
      refine x_addLS (t4 _ _ c4) h4 (Nat.le_of_ble_eq_true rfl) fun b4 G5 u4 c5 => ?_
      walk_at "sts"
      have q5 := (q4.same t4).same u4
      have w5 := (w4.trans t4).trans u4
      have ep : G5 p = some (.lst ((List.range j).map fun j => V.bl (i == j))) := (((((((((t0.trans t1).trans u1).trans t2).trans u2).trans t3).trans u3).trans t4).trans u4)) _ _ e1
      refine x_bmL ep ?_
      walk_at "sts"
      refine x_ixL c5 (at_of (j := j) rfl (one_at hj)) ?_
      walk_at "sts"
      refine x_app ep (szl (by rw [List.length_map, List.length_range]; omega)) ?_
      walk_at "sts"
      refine ⟨_, _, rfl, Same.own w5 hp, ?_⟩
      rw [one_take hj]
      exact upd_same
    · rintro σ H1 ⟨x2, x3, rfl, s1, e1⟩
      walk_at "sts"
      exact k _ _ s1 e1
theorem x_of {Cs : List Addr} {v : V} {i : Nat} {C : Addr} {H : Hp} {Q : VK} {E : XK} (hi : Cs[i]? = some C) (h : Er H v C) (q : ∀ p H', Same H H' → H' p = some (.lst ((oneOf i).map V.bl)) → Q (.ref p) H') : sp__law_of Cs [v] H Q E := ⟨v, i, C, rfl, hi, h, q⟩
def sp__law_foreign (Cs : List Addr) : Sp := fun vs H Q _ => ∃ (v : V) (C : Addr), vs = [v] ∧ C ∈ Cs ∧ Er H v C ∧ Q (.bl false) H
theorem x_foreign {Cs : List Addr} {v : V} {C : Addr} {H : Hp} {Q : VK} {E : XK} (hi : C ∈ Cs) (h : Er H v C) (q : Q (.bl false) H) : sp__law_foreign Cs [v] H Q E := ⟨v, C, rfl, hi, h, q⟩
theorem ok__law_foreign {f : Addr} {fd : FuncData} (F : Fun K "_law_foreign" "_law_foreign" s__law_foreign f fd) (T : Txt K mg C_BadPages C_Closed C_Crashed C_NoStore C_SpatialError C_TakenDisk C_BadBound fI_BadBound C_BadCut fI_BadCut C_BadLine fI_BadLine C_BadSyntax fI_BadSyntax C_BadValue fI_BadValue C_NoItem fI_NoItem C_NoPage fI_NoPage C_OutOfRange fI_OutOfRange C_TakenKey fI_TakenKey C_TooMany fI_TooMany)  : FnOk P w K mg base CX0 1 f fd ["value"] (sp__law_foreign [C_BadValue, C_BadCut, C_BadBound, C_BadSyntax, C_BadLine, C_NoItem, C_TakenKey, C_OutOfRange, C_NoPage, C_TooMany, C_BadPages, C_Crashed, C_NoStore, C_TakenDisk, C_Closed]) := by
  refine F.ok sc__law_foreign (fun vs H Q E h => ?_) (fun cdv A outer s H vs Q E hr h => ?_)
  · obtain ⟨v, C, rfl, _⟩ := h
    rfl
  · obtain ⟨v, C, rfl, hm, hv, k⟩ := h
    refine ⟨_, d__law_foreign hr T , ?_⟩
    unfold t__law_foreign
    refine x_start (σ' := [some v]) rfl ?_
    walk_at "sts"
    refine x_isV hv hm rel_ty (T.tab.ty C hm "ValueError" (by decide)) ?_
    walk_at "sts"
    refine x_isV hv hm rel_ty (T.tab.ty C hm "LookupError" (by decide)) ?_
    walk_at "sts"
    refine x_isV hv hm rel_ty (T.tab.ty C hm "ArithmeticError" (by decide)) ?_
    walk_at "sts"
    refine x_isV hv hm rel_ty (T.tab.exc C hm) ?_
    walk_at "sts"
    exact k
def sp__law_caught : Sp := fun vs H Q _ => ∃ a : Int, vs = [.int a] ∧ ∀ H', Same H H' → Q (.bl (!(decide (a = 0) || decide (a = 1)))) H'
theorem x_caught {a : Int} {H : Hp} {Q : VK} {E : XK} (q : ∀ H', Same H H' → Q (.bl (!(decide (a = 0) || decide (a = 1)))) H') : sp__law_caught [.int a] H Q E := ⟨a, rfl, q⟩
theorem ok__law_caught {f : Addr} {fd : FuncData} (F : Fun K "_law_caught" "_law_caught" s__law_caught f fd) (T : Txt K mg C_BadPages C_Closed C_Crashed C_NoStore C_SpatialError C_TakenDisk C_BadBound fI_BadBound C_BadCut fI_BadCut C_BadLine fI_BadLine C_BadSyntax fI_BadSyntax C_BadValue fI_BadValue C_NoItem fI_NoItem C_NoPage fI_NoPage C_OutOfRange fI_OutOfRange C_TakenKey fI_TakenKey C_TooMany fI_TooMany)  : FnOk P w K mg base (L2.CX P w) 3 f fd ["at"] sp__law_caught := by
  refine F.okX sc__law_caught (fun vs H Q E h => ?_) (fun cdv A outer s H vs Q E hr h => ?_)
  · obtain ⟨a, rfl, _⟩ := h
    rfl
  · obtain ⟨a, rfl, k⟩ := h
    refine ⟨_, d__law_caught hr T , ?_⟩
    unfold t__law_caught
    refine x_start (σ' := [some (.int a), none]) rfl ?_
    refine x_try ?_
    walk_at "sts"
    refine x_dec (fun c => ?_) (fun c => ?_)
    · walk_at "sts"
      refine x_raise0 ⟨true, T.x_BadPages_SpatialError, fun _ p hp => ?_, fun z => nomatch z⟩
      walk_at "sts"
      refine ⟨C_BadPages, _, _, false, rfl, rfl, List.mem_of_getElem? (i := 10) rfl, rel_ref, (fun dx z => nomatch z), kit_own T.tab (i := 10) (j := 0) rfl rfl, ?_⟩
      have z := k _ (Same.refl H)
      rw [decide_eq_true c] at z
      exact z
    · walk_at "sts"
      refine x_dec (fun c2 => ?_) (fun c2 => ?_)
      · walk_at "sts"
        refine x_raise0 ⟨true, T.x_Crashed_SpatialError, fun _ p hp => ?_, fun z => nomatch z⟩
        walk_at "sts"
        refine ⟨C_Crashed, _, _, false, rfl, rfl, List.mem_of_getElem? (i := 11) rfl, rel_ref, (fun dx z => nomatch z), kit_own T.tab (i := 11) (j := 0) rfl rfl, ?_⟩
        have z := k _ (Same.refl H)
        rw [decide_eq_true c2, Bool.or_true] at z
        exact z
      · walk_at "sts"
        refine Eat.x_raise ?_
        walk_at "sts"
        refine ⟨_, rfl, fun d hd => ⟨true, T.x_BadValue_SpatialError, fun _ p hp => ?_, fun z => nomatch z⟩⟩
        walk_at "sts"
        refine ⟨C_BadValue, _, _, true, rfl, rfl, List.mem_of_getElem? (i := 0) rfl, rel_ref, fun dx z => ?_, kit_own T.tab (i := 0) (j := 0) rfl rfl, ?_⟩
        · cases z
          exact ⟨_, upd_same⟩
        · have z := k _ (Same.new (o := .xd [(("at" : Str), V.int a)]) (Same.refl H) hd)
          rw [decide_eq_false c, decide_eq_false c2] at z
          exact z
/-! ### the law -/
theorem x_numbers {a : Addr} {ns : List Int} {H : Hp} {Q : VK} {E : XK} (h : SqL K H a (ns.map V.int)) (hl : ns.length ≤ 63) (q : ∀ p H' (rs : List Int), Same H H' → H p = none → H' p = some (.lst (rs.map V.int)) → rs ≠ [] → rs.length ≤ 4000 → Q (.ref p) H') : sp__law_numbers K [.ref a] H Q E := ⟨a, ns, rfl, h, hl, q⟩
theorem wd_start {H : Hp} {row sp : Addr} {rs : List Int} (h1 : H row = some (.lst (rs.map V.int))) (h2 : H sp = none) (h3 : rs ≠ []) (h4 : rs.length ≤ 4000) : Wd (upd H sp (.lst [.int 0])) row sp :=
  ⟨⟨0, rs, Int.le_refl 0, upd_same, upd_get h2 h1, h3, h4⟩, Ne.symm (new_ne h2 h1)⟩
theorem str3_at {r : Int} (h0 : 0 ≤ r) (h1 : r < 3) {a b c : Str} : ∃ z : Str, atI [V.str a, V.str b, V.str c] r = some (V.str z) := by
  have : r = 0 ∨ r = 1 ∨ r = 2 := by omega
  rcases this with rfl | rfl | rfl <;> exact ⟨_, rfl⟩
theorem dat4_at {ex : List Addr} {H : Hp} {r : Int} (h0 : 0 ≤ r) (h1 : r < 4) {v0 v1 v2 v3 : V} {n : Nat} {d0 d1 d2 d3 : Da} (p0 : Rp ex H v0 d0) (p1 : Rp ex H v1 d1) (p2 : Rp ex H v2 d2) (p3 : Rp ex H v3 d3) (e0 : Dn n d0) (e1 : Dn n d1) (e2 : Dn n d2) (e3 : Dn n d3) :
    ∃ v d, atI [v0, v1, v2, v3] r = some v ∧ Rp ex H v d ∧ Dn n d := by
  have : r = 0 ∨ r = 1 ∨ r = 2 ∨ r = 3 := by omega
  rcases this with rfl | rfl | rfl | rfl
  · exact ⟨_, _, rfl, p0, e0⟩
  · exact ⟨_, _, rfl, p1, e1⟩
  · exact ⟨_, _, rfl, p2, e2⟩
  · exact ⟨_, _, rfl, p3, e3⟩
def sp_law (K : PySem.W.Frag) : Sp := fun vs H Q _ => ∃ (a : Addr) (ns : List Int), vs = [.ref a] ∧ SqL K H a (ns.map V.int) ∧ ns.length ≤ 63 ∧ ∀ H', Q (.bl true) H'
theorem ok_law {f : Addr} {fd : FuncData} (F : Fun K "law" "law" s_law f fd) (T : Txt K mg C_BadPages C_Closed C_Crashed C_NoStore C_SpatialError C_TakenDisk C_BadBound fI_BadBound C_BadCut fI_BadCut C_BadLine fI_BadLine C_BadSyntax fI_BadSyntax C_BadValue fI_BadValue C_NoItem fI_NoItem C_NoPage fI_NoPage C_OutOfRange fI_OutOfRange C_TakenKey fI_TakenKey C_TooMany fI_TooMany) (O__law_caught : OkX P w K mg base 3 "_law_caught" ["at"] (sp__law_caught)) (O__law_foreign : Ok P w K mg base 1 "_law_foreign" ["value"] (sp__law_foreign [C_BadValue, C_BadCut, C_BadBound, C_BadSyntax, C_BadLine, C_NoItem, C_TakenKey, C_OutOfRange, C_NoPage, C_TooMany, C_BadPages, C_Crashed, C_NoStore, C_TakenDisk, C_Closed])) (O__law_numbers : Ok P w K mg base 1 "_law_numbers" ["script"] (sp__law_numbers K)) (O__law_of : Ok P w K mg base 1 "_law_of" ["value"] (sp__law_of [C_BadValue, C_BadCut, C_BadBound, C_BadSyntax, C_BadLine, C_NoItem, C_TakenKey, C_OutOfRange, C_NoPage, C_TooMany, C_BadPages, C_Crashed, C_NoStore, C_TakenDisk, C_Closed])) (O__law_so : Ok P w K mg base 4 "_law_so" ["found", "meant"] (sp__law_so 4)) (O__law_take : Ok P w K mg base 2 "_law_take" ["row", "spot", "limit"] (sp__law_take)) (O__law_wide : Ok P w K mg base 3 "_law_wide" ["row", "spot", "limit"] (sp__law_wide)) : FnOk P w K mg base CX0 5 f fd ["script"] (sp_law K) := by
  refine F.ok sc_law (fun vs H Q E h => ?_) (fun cdv A outer s H vs Q E hr h => ?_)
  · obtain ⟨a, ns, rfl, _⟩ := h
    rfl
  · obtain ⟨a, ns, rfl, ha, hl, k⟩ := h
    refine ⟨_, d_law hr T O__law_caught O__law_foreign O__law_numbers O__law_of O__law_so O__law_take O__law_wide, ?_⟩
    unfold t_law
    refine x_start (σ' := [some (.ref a), none, none, none, none, none, none, none, none, none, none, none, none, none]) rfl ?_
    walk_at "sts"
    refine x_numbers ha hl fun row H1 rs s1 _ hrow hne hle => ?_
    walk_at "sts"
    refine x_mkl (m := 1) rfl (by decide) fun sp hs => ?_
    have W0 := wd_start hrow hs hne hle
    walk_at "sts"
    refine x_take W0 (by decide) fun r1 H2 a1 b1 k1 W2 => ?_
    walk_at "sts"
    refine x_wide W2 (by decide) fun r2 H3 a2 b2 k2 W3 => ?_
    walk_at "sts"
    refine x_mkl (m := 3) rfl (by decide) fun pw hpw => ?_
    walk_at "sts"
    refine x_take (W3.new hpw) (by decide) fun r3 H4 a3 b3 k3 W4 => ?_
    have nw : pw ≠ sp := W3.sp_ne hpw
    obtain ⟨wd, hwd⟩ := str3_at a3 b3 (a := "items") (b := "pages") (c := "")
    refine x_ixL (k3 _ _ (not1 nw) upd_same) hwd ?_
    walk_at "sts"
    refine x_mkT (ex := [sp]) (ds := [.int (r1 - 9)]) (by walk_at "rps") W4.live (Nat.le_of_ble_eq_true rfl) fun vt H5 s5 rt => ?_
    have W5 := W4.same s5
    walk_at "sts"
    refine x_mkl (m := 4) rfl (by decide) fun po hpo => ?_
    walk_at "sts"
    refine x_take (W5.new hpo) (by decide) fun r4 H6 a4 b4 k4 W6 => ?_
    have no : po ≠ sp := W5.sp_ne hpo
    have rt6 := (rt.kp (Kp.refl.new (o := .lst [.non, .int (-r2), .str wd, vt]) hpo)).kp k4
    obtain ⟨ov, od, hov, ro, dno⟩ := dat4_at (n := 4) a4 b4 Rp.non (Rp.int (-r2)) (Rp.str wd) rt6 .non (.int _) (.str _) (.tup (Nat.le_of_ble_eq_true rfl) fun d hd => by
      rcases List.mem_cons.mp hd with rfl | hd
      · exact .int _
      · cases hd)
    refine x_ixL (k4 _ _ (not1 no) upd_same) hov ?_
    walk_at "sts"
    refine x_newA rfl fun v0 A0 v0_s v0_e => ?_
    walk_at "sts"
    refine x_newA rfl fun v1 A1 v1_s v1_e => ?_
    walk_at "sts"
    refine x_newA rfl fun v2 A2 v2_s v2_e => ?_
    walk_at "sts"
    refine x_newA rfl fun v3 A3 v3_s v3_e => ?_
    walk_at "sts"
    refine x_newA rfl fun v4 A4 v4_s v4_e => ?_
    walk_at "sts"
    refine x_mklS (m := 5) rfl (by decide) fun pp H7 s7 e7 => ?_
    have z7 : Same H6 H7 := (((((v0_s).trans v1_s).trans v2_s).trans v3_s).trans v4_s).trans s7
    have E7 : ErsF H7 [v0, v1, v2, v3, v4] [C_BadValue, C_BadCut, C_BadBound, C_BadSyntax, C_BadLine] "at" (.int (r1 - 9)) := (ErsF.cons ((((((v0_e).same v1_s).same v2_s).same v3_s).same v4_s).same s7) (ErsF.cons (((((v1_e).same v2_s).same v3_s).same v4_s).same s7) (ErsF.cons ((((v2_e).same v3_s).same v4_s).same s7) (ErsF.cons (((v3_e).same v4_s).same s7) (ErsF.cons ((v4_e).same s7) ErsF.nil)))))
    walk_at "sts"
    refine x_newA rfl fun w0 B0 w0_s w0_e => ?_
    walk_at "sts"
    refine x_newA rfl fun w1 B1 w1_s w1_e => ?_
    walk_at "sts"
    refine x_newA rfl fun w2 B2 w2_s w2_e => ?_
    walk_at "sts"
    refine x_newA rfl fun w3 B3 w3_s w3_e => ?_
    walk_at "sts"
    refine x_newA rfl fun w4 B4 w4_s w4_e => ?_
    walk_at "sts"
    refine x_mklS (m := 5) rfl (by decide) fun pn H8 s8 e8 => ?_
    have z8 : Same H7 H8 := (((((w0_s).trans w1_s).trans w2_s).trans w3_s).trans w4_s).trans s8
    have E8 : ErsF H8 [w0, w1, w2, w3, w4] [C_BadValue, C_BadCut, C_BadBound, C_BadSyntax, C_BadLine] "at" (.int (r1 - 9)) := (ErsF.cons ((((((w0_e).same w1_s).same w2_s).same w3_s).same w4_s).same s8) (ErsF.cons (((((w1_e).same w2_s).same w3_s).same w4_s).same s8) (ErsF.cons ((((w2_e).same w3_s).same w4_s).same s8) (ErsF.cons (((w3_e).same w4_s).same s8) (ErsF.cons ((w4_e).same s8) ErsF.nil)))))
    walk_at "sts"
    refine x_addLS (z8 _ _ e7) e8 (Nat.le_of_ble_eq_true rfl) fun pb H9 s9 e9 => ?_
    have E9 : ErsF H9 [v0, v1, v2, v3, v4, w0, w1, w2, w3, w4] [C_BadValue, C_BadCut, C_BadBound, C_BadSyntax, C_BadLine, C_BadValue, C_BadCut, C_BadBound, C_BadSyntax, C_BadLine] "at" (.int (r1 - 9)) := by
      have q7 := fun i x C g h => (E7.2 i x C g h).same (z8.trans s9)
      have q8 := fun i x C g h => (E8.2 i x C g h).same s9
      exact ErsF.cons (q7 0 _ _ rfl rfl) (ErsF.cons (q7 1 _ _ rfl rfl) (ErsF.cons (q7 2 _ _ rfl rfl) (ErsF.cons (q7 3 _ _ rfl rfl) (ErsF.cons (q7 4 _ _ rfl rfl) (ErsF.cons (q8 0 _ _ rfl rfl) (ErsF.cons (q8 1 _ _ rfl rfl) (ErsF.cons (q8 2 _ _ rfl rfl) (ErsF.cons (q8 3 _ _ rfl rfl) (ErsF.cons (q8 4 _ _ rfl rfl) ErsF.nil)))))))))
    have z9 : Same H6 H9 := (z7.trans z8).trans s9
    clear v0_e v1_e v2_e v3_e v4_e w0_e w1_e w2_e w3_e w4_e
    walk_at "sts"
    refine x_loopL (xs := [v0, v1, v2, v3, v4, w0, w1, w2, w3, w4]) (SqL.of e9) (fun i σ H' => ∃ x9 : Option V, σ = [some (.ref a), some (.ref row), some (.ref sp), some (.int (r1 - 9)), some (.int r2), some (.str wd), some ov, some (.ref pp), some (.ref pn), x9, none, none, none, none] ∧ H9 = H') ?_ ?_ ?_ ?_
    · exact ⟨_, rfl, rfl⟩
    · rintro i σ H' _ ⟨x9, rfl, rfl⟩
      exact SqL.of e9
    · rintro i x σ H' hx ⟨x9, rfl, rfl⟩
      obtain ⟨C, hC, ee⟩ := E9.at hx
      have mC : C ∈ [C_BadValue, C_BadCut, C_BadBound, C_BadSyntax, C_BadLine] := by
        have := List.mem_of_getElem? hC
        simp only [List.mem_cons, List.not_mem_nil, or_false] at this ⊢
        rcases this with h | h | h | h | h | h | h | h | h | h <;> simp [h]
      walk_at "sts"
      refine x_getA rfl ee mC ?_
      walk_at "sts"
      refine x_so (sp := []) (.int (r1 - 9)) (.int _) (.int _) ?_
      walk_at "sts"
      exact ⟨_, rfl, rfl⟩
    · rintro σ H' ⟨x9, rfl, rfl⟩
      walk_at "sts"
      refine x_newK rfl fun y0 D0 y0_s y0_e => ?_
      walk_at "sts"
      refine x_newK rfl fun y1 D1 y1_s y1_e => ?_
      walk_at "sts"
      refine x_newK rfl fun y2 D2 y2_s y2_e => ?_
      walk_at "sts"
      refine x_newK rfl fun y3 D3 y3_s y3_e => ?_
      walk_at "sts"
      refine x_newK rfl fun y4 D4 y4_s y4_e => ?_
      walk_at "sts"
      refine x_newK rfl fun y5 D5 y5_s y5_e => ?_
      walk_at "sts"
      refine x_mklS (m := 6) rfl (by decide) fun pi H10 s10 e10 => ?_
      have z10 : Same H9 H10 := ((((((y0_s).trans y1_s).trans y2_s).trans y3_s).trans y4_s).trans y5_s).trans s10
      have E10 : ErsF H10 [y0, y1, y2, y3, y4, y5] [C_NoItem, C_TakenKey, C_OutOfRange, C_NoItem, C_TakenKey, C_OutOfRange] "key" (.int r2) := (ErsF.cons (((((((y0_e).same y1_s).same y2_s).same y3_s).same y4_s).same y5_s).same s10) (ErsF.cons ((((((y1_e).same y2_s).same y3_s).same y4_s).same y5_s).same s10) (ErsF.cons (((((y2_e).same y3_s).same y4_s).same y5_s).same s10) (ErsF.cons ((((y3_e).same y4_s).same y5_s).same s10) (ErsF.cons (((y4_e).same y5_s).same s10) (ErsF.cons ((y5_e).same s10) ErsF.nil))))))
      clear y0_e y1_e y2_e y3_e y4_e y5_e
      walk_at "sts"
      refine x_loopL (xs := [y0, y1, y2, y3, y4, y5]) (SqL.of e10) (fun i σ H' => ∃ x9 : Option V, σ = [some (.ref a), some (.ref row), some (.ref sp), some (.int (r1 - 9)), some (.int r2), some (.str wd), some ov, some (.ref pp), some (.ref pn), x9, some (.ref pi), none, none, none] ∧ H10 = H') ?_ ?_ ?_ ?_
      · exact ⟨_, rfl, rfl⟩
      · rintro i σ H' _ ⟨x9, rfl, rfl⟩
        exact SqL.of e10
      · rintro i x σ H' hx ⟨x9, rfl, rfl⟩
        obtain ⟨C, hC, ee⟩ := E10.at hx
        have mC : C ∈ [C_NoItem, C_TakenKey, C_OutOfRange] := by
          have := List.mem_of_getElem? hC
          simp only [List.mem_cons, List.not_mem_nil, or_false] at this ⊢
          rcases this with h | h | h | h | h | h <;> simp [h]
        walk_at "sts"
        refine x_getK rfl ee mC ?_
        walk_at "sts"
        refine x_so (sp := []) (.int r2) (.int _) (.int _) ?_
        walk_at "sts"
        exact ⟨_, rfl, rfl⟩
      · rintro σ H' ⟨x8, rfl, rfl⟩
        walk_at "sts"
        have ro10 := ro.same (z9.trans z10)
        refine x_gnN rfl List.mem_cons_self fun J0 p0_s => ?_
        walk_at "sts"
        refine x_so (ro10.same p0_s) (ro10.same p0_s) dno ?_
        walk_at "sts"
        refine x_gnN rfl List.mem_cons_self fun J1 p1_s => ?_
        walk_at "sts"
        refine x_so (sp := []) (.int r2) (.int _) (.int _) ?_
        walk_at "sts"
        refine x_gnW rfl List.mem_cons_self fun J2 p2_s => ?_
        walk_at "sts"
        refine x_so (sp := []) (.str wd) (.str _) (.str _) ?_
        walk_at "sts"
        refine x_gcW List.mem_cons_self fun J3 p3_s => ?_
        walk_at "sts"
        refine x_so (sp := []) (.str "x") (.str _) (.str _) ?_
        walk_at "sts"
        have z11 : Same H10 J3 := ((p0_s.trans p1_s).trans p2_s).trans p3_s
        refine x_slL (SqL.of (z11 _ _ e10)) fun pc hpc => ?_
        have s12 : Same J3 (upd J3 pc (.lst [y0, y1, y2])) := Same.new (Same.refl _) hpc
        have e12 : upd J3 pc (.lst [y0, y1, y2]) pc = some (.lst [y0, y1, y2]) := upd_same
        show rAddX K (.ref pp) (.ref pc) (upd J3 pc (.lst [y0, y1, y2])) _
        generalize upd J3 pc (.lst [y0, y1, y2]) = H12 at s12 e12 ⊢
        have z12 : Same H10 H12 := z11.trans s12
        refine x_addLS (((z8.trans s9).trans (z10.trans z12)) _ _ e7) e12 (Nat.le_of_ble_eq_true rfl) fun pd H13 s13 e13 => ?_
        walk_at "sts"
        refine x_newN rfl fun q0 M0 q0_s q0_e => ?_
        walk_at "sts"
        refine x_newW rfl fun q1 M1 q1_s q1_e => ?_
        walk_at "sts"
        refine x_new0 fun q2 M2 q2_s q2_e => ?_
        walk_at "sts"
        refine x_new0 fun q3 M3 q3_s q3_e => ?_
        walk_at "sts"
        refine x_new0 fun q4 M4 q4_s q4_e => ?_
        walk_at "sts"
        refine x_new0 fun q5 M5 q5_s q5_e => ?_
        walk_at "sts"
        refine x_new0 fun q6 M6 q6_s q6_e => ?_
        walk_at "sts"
        refine x_mklS (m := 7) rfl (by decide) fun pe H14 s14 e14 => ?_
        have m6 : Same M6 H14 := s14
        have m5 := q6_s.trans m6
        have m4 := q5_s.trans m5
        have m3 := q4_s.trans m4
        have m2 := q3_s.trans m3
        have m1 := q2_s.trans m2
        have m0 := q1_s.trans m1
        have z14 : Same H13 H14 := q0_s.trans m0
        walk_at "sts"
        refine x_addLS (z14 _ _ e13) e14 (Nat.le_of_ble_eq_true rfl) fun pr H15 s15 e15 => ?_
        have E15 : Ers H15 [v0, v1, v2, v3, v4, y0, y1, y2, q0, q1, q2, q3, q4, q5, q6] [C_BadValue, C_BadCut, C_BadBound, C_BadSyntax, C_BadLine, C_NoItem, C_TakenKey, C_OutOfRange, C_NoPage, C_TooMany, C_BadPages, C_Crashed, C_NoStore, C_TakenDisk, C_Closed] := by
          have t7 := ((z8.trans s9).trans (z10.trans z12)).trans ((s13.trans z14).trans s15)
          have t10 := z12.trans ((s13.trans z14).trans s15)
          have q7 := fun i x C g h => (E7.2 i x C g h).er.same t7
          have q10 := fun i x C g h => (E10.2 i x C g h).er.same t10
          exact Ers.cons (q7 0 _ _ rfl rfl) (Ers.cons (q7 1 _ _ rfl rfl) (Ers.cons (q7 2 _ _ rfl rfl) (Ers.cons (q7 3 _ _ rfl rfl) (Ers.cons (q7 4 _ _ rfl rfl) (Ers.cons (q10 0 _ _ rfl rfl) (Ers.cons (q10 1 _ _ rfl rfl) (Ers.cons (q10 2 _ _ rfl rfl)
            (Ers.cons (q0_e.er.same (m0.trans s15)) (Ers.cons (q1_e.er.same (m1.trans s15)) (Ers.cons (q2_e.same (m2.trans s15)) (Ers.cons (q3_e.same (m3.trans s15)) (Ers.cons (q4_e.same (m4.trans s15)) (Ers.cons (q5_e.same (m5.trans s15)) (Ers.cons (q6_e.same (m6.trans s15)) Ers.nil))))))))))))))
        have e15' : H15 pr = some (.lst [v0, v1, v2, v3, v4, y0, y1, y2, q0, q1, q2, q3, q4, q5, q6]) := e15
        have W15 : Wd H15 row sp := W6.same (((z9.trans z10).trans z12).trans ((s13.trans z14).trans s15))
        clear q0_e q1_e q2_e q3_e q4_e q5_e q6_e e15
        generalize hxs : [v0, v1, v2, v3, v4, y0, y1, y2, q0, q1, q2, q3, q4, q5, q6] = xs at E15 e15'
        have lx : xs.length = 15 := by rw [← hxs]; rfl
        clear hxs
        walk_at "sts"
        refine x_lenL e15' ?_
        walk_at "sts"
        refine x_rng 15 (by decide) (by rw [lx]) ?_
        refine x_loopR (fun i σ H' => ∃ x12 x13 : Option V, σ = [some (.ref a), some (.ref row), some (.ref sp), some (.int (r1 - 9)), some (.int r2), some (.str wd), some ov, some (.ref pp), some (.ref pn), x8, some (.ref pi), some (.ref pr), x12, x13] ∧ Same H15 H') ?_ ?_ ?_
        · exact ⟨_, _, rfl, Same.refl _⟩
        · rintro i σ H' hi ⟨x12, x13, rfl, s⟩
          have gx : xs[i]? = some (xs[i]'(by omega)) := List.getElem?_eq_getElem _
          generalize xs[i]'(by omega) = x at gx
          obtain ⟨C, hC, ee⟩ := E15.at gx
          have mC := List.mem_of_getElem? hC
          walk_at "sts"
          refine x_ixL (s _ _ e15') (at_of (j := i) rfl gx) ?_
          walk_at "sts"
          refine x_of hC (ee.same s) fun po2 G1 g1 f1 => ?_
          walk_at "sts"
          refine x_rng 15 (by decide) rfl ?_
          refine x_lcN (fun D j G => G1 D = none ∧ Same G1 G ∧ G D = some (.lst ((List.range j).map fun t => V.bl (i == t)))) (fun D hD => ⟨hD, Same.new (Same.refl _) hD, upd_same⟩) (fun D j G hj ⟨g0, g2, f2⟩ => ?_) (fun D G ⟨g0, g2, f2⟩ => ?_)
          · walk_at "sts"
            refine ⟨rfl, ?_⟩
            walk_at "sts"
            refine ⟨_, f2, szl (by rw [List.length_map, List.length_range]; omega), g0, Same.own g2 g0, ?_⟩
            have e : decide ((j : Int) = (i : Int)) = (i == j) := by
              by_cases c : i = j
              · subst c; simp
              · rw [decide_eq_false (by omega)]; simp [c]
            rw [e, one_take hj]
            exact upd_same
          · walk_at "sts"
            refine x_neB (a := oneOf i) (g2 _ _ f1) (by rw [f2]; unfold oneOf; rw [List.map_map]; rfl) ?_
            walk_at "sts"
            have sG : Same H15 G := (s.trans g1).trans g2
            refine x_ixL (sG _ _ e15') (at_of (j := i) rfl gx) ?_
            walk_at "sts"
            refine x_foreign mC (ee.same sG) ?_
            walk_at "sts"
            refine x_ixL (sG _ _ e15') (at_of (j := i) rfl gx) ?_
            walk_at "sts"
            refine x_isV (ee.same sG) mC rel_ref (T.tab.base C mC) ?_
            walk_at "sts"
            exact ⟨_, _, rfl, sG⟩
        · rintro σ H16 ⟨x12, x13, rfl, s16⟩
          walk_at "sts"
          refine x_caught fun H17 s17 => ?_
          walk_at "sts"
          refine x_ite (fun _ => ?_) (fun z => absurd z (by decide))
          walk_at "sts"
          refine x_caught fun H18 s18 => ?_
          walk_at "sts"
          refine x_ite (fun _ => ?_) (fun z => absurd z (by decide))
          walk_at "sts"
          refine x_take (W15.same ((s16.trans s17).trans s18)) (by decide) fun r9 H19 a9 b9 k9 W9 => ?_
          walk_at "sts"
          refine x_caught fun H20 s20 => ?_
          rw [decide_eq_false (by omega), decide_eq_false (by omega)]
          exact k _
end
set_option maxHeartbeats 4000000 in
theorem all_mk {l : PySem.W.OpenLaw} {w : World} {K : PySem.W.Frag} {h : Heap} {mg : Str → Option Value} {fa : Addr} (X : K.In h) (G : h.Ns mainGlobals mg) (hfa : mg "law" = some (.ref fa))
    {f__law_so : Addr} {od__law_so an__law_so : Option Addr} {sl__law_so : Array (Option Value)} {oc__law_so kV__law_so dc__law_so pm__law_so cd__law_so ct__law_so : Value}
    {f__law_numbers : Addr} {od__law_numbers an__law_numbers : Option Addr} {sl__law_numbers : Array (Option Value)} {oc__law_numbers kV__law_numbers dc__law_numbers pm__law_numbers cd__law_numbers ct__law_numbers : Value}
    {f__law_draw : Addr} {od__law_draw an__law_draw : Option Addr} {sl__law_draw : Array (Option Value)} {oc__law_draw kV__law_draw dc__law_draw pm__law_draw cd__law_draw ct__law_draw : Value}
    {f__law_take : Addr} {od__law_take an__law_take : Option Addr} {sl__law_take : Array (Option Value)} {oc__law_take kV__law_take dc__law_take pm__law_take cd__law_take ct__law_take : Value}
    {f__law_wide : Addr} {od__law_wide an__law_wide : Option Addr} {sl__law_wide : Array (Option Value)} {oc__law_wide kV__law_wide dc__law_wide pm__law_wide cd__law_wide ct__law_wide : Value}
    {f__law_of : Addr} {od__law_of an__law_of : Option Addr} {sl__law_of : Array (Option Value)} {oc__law_of kV__law_of dc__law_of pm__law_of cd__law_of ct__law_of : Value}
    {f__law_foreign : Addr} {od__law_foreign an__law_foreign : Option Addr} {sl__law_foreign : Array (Option Value)} {oc__law_foreign kV__law_foreign dc__law_foreign pm__law_foreign cd__law_foreign ct__law_foreign : Value}
    {f__law_caught : Addr} {od__law_caught an__law_caught : Option Addr} {sl__law_caught : Array (Option Value)} {oc__law_caught kV__law_caught dc__law_caught pm__law_caught cd__law_caught ct__law_caught : Value}
    {f_law : Addr} {od_law an_law : Option Addr} {sl_law : Array (Option Value)} {oc_law kV_law dc_law pm_law cd_law ct_law : Value}
    {C_BadBound fI_BadBound N_BadBound S_BadBound : Addr} {od_eBadBound an_eBadBound dd_BadBound : Option Addr} {sl_eBadBound : Array (Option Value)} {oc_eBadBound dc_eBadBound pm_eBadBound cd_eBadBound ct_eBadBound : Value} {nm_BadBound q_BadBound : Str} {bs_BadBound sub_BadBound : List Value} {sn_BadBound : List Str} {ab_BadBound : Bool} {col_BadBound : Option Bool} {m0_BadBound m1_BadBound m2_BadBound m3_BadBound m5_BadBound : Option Value} {p1_BadBound p2_BadBound q1_BadBound q2_BadBound q3_BadBound q4_BadBound : Pos}
    {C_BadCut fI_BadCut N_BadCut S_BadCut : Addr} {od_eBadCut an_eBadCut dd_BadCut : Option Addr} {sl_eBadCut : Array (Option Value)} {oc_eBadCut dc_eBadCut pm_eBadCut cd_eBadCut ct_eBadCut : Value} {nm_BadCut q_BadCut : Str} {bs_BadCut sub_BadCut : List Value} {sn_BadCut : List Str} {ab_BadCut : Bool} {col_BadCut : Option Bool} {m0_BadCut m1_BadCut m2_BadCut m3_BadCut m5_BadCut : Option Value} {p1_BadCut p2_BadCut q1_BadCut q2_BadCut q3_BadCut q4_BadCut : Pos}
    {C_BadLine fI_BadLine N_BadLine S_BadLine : Addr} {od_eBadLine an_eBadLine dd_BadLine : Option Addr} {sl_eBadLine : Array (Option Value)} {oc_eBadLine dc_eBadLine pm_eBadLine cd_eBadLine ct_eBadLine : Value} {nm_BadLine q_BadLine : Str} {bs_BadLine sub_BadLine : List Value} {sn_BadLine : List Str} {ab_BadLine : Bool} {col_BadLine : Option Bool} {m0_BadLine m1_BadLine m2_BadLine m3_BadLine m5_BadLine : Option Value} {p1_BadLine p2_BadLine q1_BadLine q2_BadLine q3_BadLine q4_BadLine : Pos}
    {C_BadSyntax fI_BadSyntax N_BadSyntax S_BadSyntax : Addr} {od_eBadSyntax an_eBadSyntax dd_BadSyntax : Option Addr} {sl_eBadSyntax : Array (Option Value)} {oc_eBadSyntax dc_eBadSyntax pm_eBadSyntax cd_eBadSyntax ct_eBadSyntax : Value} {nm_BadSyntax q_BadSyntax : Str} {bs_BadSyntax sub_BadSyntax : List Value} {sn_BadSyntax : List Str} {ab_BadSyntax : Bool} {col_BadSyntax : Option Bool} {m0_BadSyntax m1_BadSyntax m2_BadSyntax m3_BadSyntax m5_BadSyntax : Option Value} {p1_BadSyntax p2_BadSyntax q1_BadSyntax q2_BadSyntax q3_BadSyntax q4_BadSyntax : Pos}
    {C_BadValue fI_BadValue N_BadValue S_BadValue : Addr} {od_eBadValue an_eBadValue dd_BadValue : Option Addr} {sl_eBadValue : Array (Option Value)} {oc_eBadValue dc_eBadValue pm_eBadValue cd_eBadValue ct_eBadValue : Value} {nm_BadValue q_BadValue : Str} {bs_BadValue sub_BadValue : List Value} {sn_BadValue : List Str} {ab_BadValue : Bool} {col_BadValue : Option Bool} {m0_BadValue m1_BadValue m2_BadValue m3_BadValue m5_BadValue : Option Value} {p1_BadValue p2_BadValue q1_BadValue q2_BadValue q3_BadValue q4_BadValue : Pos}
    {C_NoItem fI_NoItem N_NoItem S_NoItem : Addr} {od_eNoItem an_eNoItem dd_NoItem : Option Addr} {sl_eNoItem : Array (Option Value)} {oc_eNoItem dc_eNoItem pm_eNoItem cd_eNoItem ct_eNoItem : Value} {nm_NoItem q_NoItem : Str} {bs_NoItem sub_NoItem : List Value} {sn_NoItem : List Str} {ab_NoItem : Bool} {col_NoItem : Option Bool} {m0_NoItem m1_NoItem m2_NoItem m3_NoItem m5_NoItem : Option Value} {p1_NoItem p2_NoItem q1_NoItem q2_NoItem q3_NoItem q4_NoItem : Pos}
    {C_NoPage fI_NoPage N_NoPage S_NoPage : Addr} {od_eNoPage an_eNoPage dd_NoPage : Option Addr} {sl_eNoPage : Array (Option Value)} {oc_eNoPage dc_eNoPage pm_eNoPage cd_eNoPage ct_eNoPage : Value} {nm_NoPage q_NoPage : Str} {bs_NoPage sub_NoPage : List Value} {sn_NoPage : List Str} {ab_NoPage : Bool} {col_NoPage : Option Bool} {m0_NoPage m1_NoPage m2_NoPage m3_NoPage m5_NoPage : Option Value} {p1_NoPage p2_NoPage q1_NoPage q2_NoPage q3_NoPage q4_NoPage : Pos}
    {C_OutOfRange fI_OutOfRange N_OutOfRange S_OutOfRange : Addr} {od_eOutOfRange an_eOutOfRange dd_OutOfRange : Option Addr} {sl_eOutOfRange : Array (Option Value)} {oc_eOutOfRange dc_eOutOfRange pm_eOutOfRange cd_eOutOfRange ct_eOutOfRange : Value} {nm_OutOfRange q_OutOfRange : Str} {bs_OutOfRange sub_OutOfRange : List Value} {sn_OutOfRange : List Str} {ab_OutOfRange : Bool} {col_OutOfRange : Option Bool} {m0_OutOfRange m1_OutOfRange m2_OutOfRange m3_OutOfRange m5_OutOfRange : Option Value} {p1_OutOfRange p2_OutOfRange q1_OutOfRange q2_OutOfRange q3_OutOfRange q4_OutOfRange : Pos}
    {C_TakenKey fI_TakenKey N_TakenKey S_TakenKey : Addr} {od_eTakenKey an_eTakenKey dd_TakenKey : Option Addr} {sl_eTakenKey : Array (Option Value)} {oc_eTakenKey dc_eTakenKey pm_eTakenKey cd_eTakenKey ct_eTakenKey : Value} {nm_TakenKey q_TakenKey : Str} {bs_TakenKey sub_TakenKey : List Value} {sn_TakenKey : List Str} {ab_TakenKey : Bool} {col_TakenKey : Option Bool} {m0_TakenKey m1_TakenKey m2_TakenKey m3_TakenKey m5_TakenKey : Option Value} {p1_TakenKey p2_TakenKey q1_TakenKey q2_TakenKey q3_TakenKey q4_TakenKey : Pos}
    {C_TooMany fI_TooMany N_TooMany S_TooMany : Addr} {od_eTooMany an_eTooMany dd_TooMany : Option Addr} {sl_eTooMany : Array (Option Value)} {oc_eTooMany dc_eTooMany pm_eTooMany cd_eTooMany ct_eTooMany : Value} {nm_TooMany q_TooMany : Str} {bs_TooMany sub_TooMany : List Value} {sn_TooMany : List Str} {ab_TooMany : Bool} {col_TooMany : Option Bool} {m0_TooMany m1_TooMany m2_TooMany m3_TooMany m5_TooMany : Option Value} {p1_TooMany p2_TooMany q1_TooMany q2_TooMany q3_TooMany q4_TooMany : Pos}
    {C_BadPages : Addr}
    {C_Closed : Addr}
    {C_Crashed : Addr}
    {C_NoStore : Addr}
    {C_SpatialError : Addr}
    {C_TakenDisk : Addr}
    (a__law_so : PySem.W.nsIn K mainGlobals "_law_so" = some (some (.ref f__law_so))) (l__law_so : K.lookup f__law_so = some ⟨oc__law_so, od__law_so, .func (PySem.W.fnOf "_law_so" "_law_so" (defArgs s__law_so) (defBody s__law_so) (defScope s__law_so) .none kV__law_so dc__law_so pm__law_so an__law_so cd__law_so ct__law_so), sl__law_so⟩) (c__law_so : PySem.W.codeIn K cd__law_so "_law_so" = true) (k__law_so : PySem.W.keepIn K (.ref f__law_so) = true)
    (a__law_numbers : PySem.W.nsIn K mainGlobals "_law_numbers" = some (some (.ref f__law_numbers))) (l__law_numbers : K.lookup f__law_numbers = some ⟨oc__law_numbers, od__law_numbers, .func (PySem.W.fnOf "_law_numbers" "_law_numbers" (defArgs s__law_numbers) (defBody s__law_numbers) (defScope s__law_numbers) .none kV__law_numbers dc__law_numbers pm__law_numbers an__law_numbers cd__law_numbers ct__law_numbers), sl__law_numbers⟩) (c__law_numbers : PySem.W.codeIn K cd__law_numbers "_law_numbers" = true) (k__law_numbers : PySem.W.keepIn K (.ref f__law_numbers) = true)
    (a__law_draw : PySem.W.nsIn K mainGlobals "_law_draw" = some (some (.ref f__law_draw))) (l__law_draw : K.lookup f__law_draw = some ⟨oc__law_draw, od__law_draw, .func (PySem.W.fnOf "_law_draw" "_law_draw" (defArgs s__law_draw) (defBody s__law_draw) (defScope s__law_draw) .none kV__law_draw dc__law_draw pm__law_draw an__law_draw cd__law_draw ct__law_draw), sl__law_draw⟩) (c__law_draw : PySem.W.codeIn K cd__law_draw "_law_draw" = true) (k__law_draw : PySem.W.keepIn K (.ref f__law_draw) = true)
    (a__law_take : PySem.W.nsIn K mainGlobals "_law_take" = some (some (.ref f__law_take))) (l__law_take : K.lookup f__law_take = some ⟨oc__law_take, od__law_take, .func (PySem.W.fnOf "_law_take" "_law_take" (defArgs s__law_take) (defBody s__law_take) (defScope s__law_take) .none kV__law_take dc__law_take pm__law_take an__law_take cd__law_take ct__law_take), sl__law_take⟩) (c__law_take : PySem.W.codeIn K cd__law_take "_law_take" = true) (k__law_take : PySem.W.keepIn K (.ref f__law_take) = true)
    (a__law_wide : PySem.W.nsIn K mainGlobals "_law_wide" = some (some (.ref f__law_wide))) (l__law_wide : K.lookup f__law_wide = some ⟨oc__law_wide, od__law_wide, .func (PySem.W.fnOf "_law_wide" "_law_wide" (defArgs s__law_wide) (defBody s__law_wide) (defScope s__law_wide) .none kV__law_wide dc__law_wide pm__law_wide an__law_wide cd__law_wide ct__law_wide), sl__law_wide⟩) (c__law_wide : PySem.W.codeIn K cd__law_wide "_law_wide" = true) (k__law_wide : PySem.W.keepIn K (.ref f__law_wide) = true)
    (a__law_of : PySem.W.nsIn K mainGlobals "_law_of" = some (some (.ref f__law_of))) (l__law_of : K.lookup f__law_of = some ⟨oc__law_of, od__law_of, .func (PySem.W.fnOf "_law_of" "_law_of" (defArgs s__law_of) (defBody s__law_of) (defScope s__law_of) .none kV__law_of dc__law_of pm__law_of an__law_of cd__law_of ct__law_of), sl__law_of⟩) (c__law_of : PySem.W.codeIn K cd__law_of "_law_of" = true) (k__law_of : PySem.W.keepIn K (.ref f__law_of) = true)
    (a__law_foreign : PySem.W.nsIn K mainGlobals "_law_foreign" = some (some (.ref f__law_foreign))) (l__law_foreign : K.lookup f__law_foreign = some ⟨oc__law_foreign, od__law_foreign, .func (PySem.W.fnOf "_law_foreign" "_law_foreign" (defArgs s__law_foreign) (defBody s__law_foreign) (defScope s__law_foreign) .none kV__law_foreign dc__law_foreign pm__law_foreign an__law_foreign cd__law_foreign ct__law_foreign), sl__law_foreign⟩) (c__law_foreign : PySem.W.codeIn K cd__law_foreign "_law_foreign" = true) (k__law_foreign : PySem.W.keepIn K (.ref f__law_foreign) = true)
    (a__law_caught : PySem.W.nsIn K mainGlobals "_law_caught" = some (some (.ref f__law_caught))) (l__law_caught : K.lookup f__law_caught = some ⟨oc__law_caught, od__law_caught, .func (PySem.W.fnOf "_law_caught" "_law_caught" (defArgs s__law_caught) (defBody s__law_caught) (defScope s__law_caught) .none kV__law_caught dc__law_caught pm__law_caught an__law_caught cd__law_caught ct__law_caught), sl__law_caught⟩) (c__law_caught : PySem.W.codeIn K cd__law_caught "_law_caught" = true) (k__law_caught : PySem.W.keepIn K (.ref f__law_caught) = true)
    (a_law : PySem.W.nsIn K mainGlobals "law" = some (some (.ref f_law))) (l_law : K.lookup f_law = some ⟨oc_law, od_law, .func (PySem.W.fnOf "law" "law" (defArgs s_law) (defBody s_law) (defScope s_law) .none kV_law dc_law pm_law an_law cd_law ct_law), sl_law⟩) (c_law : PySem.W.codeIn K cd_law "law" = true) (k_law : PySem.W.keepIn K (.ref f_law) = true)
    (na_BadPages : PySem.W.nsIn K mainGlobals "BadPages" = some (some (.ref C_BadPages))) (nq_BadPages : PySem.W.excIn K C_BadPages exB "Exception.__new__" = true) (nk_BadPages : PySem.W.keepIn K (.ref C_BadPages) = true) (nb_BadPages : PySem.W.subIn K (.ref C_BadPages) (.type "BaseException") = some true) (ny_BadPages : PySem.W.typeIn K (.ref C_BadPages) = some (.type "type"))
    (na_Closed : PySem.W.nsIn K mainGlobals "Closed" = some (some (.ref C_Closed))) (nq_Closed : PySem.W.excIn K C_Closed exB "Exception.__new__" = true) (nk_Closed : PySem.W.keepIn K (.ref C_Closed) = true) (nb_Closed : PySem.W.subIn K (.ref C_Closed) (.type "BaseException") = some true) (ny_Closed : PySem.W.typeIn K (.ref C_Closed) = some (.type "type"))
    (na_Crashed : PySem.W.nsIn K mainGlobals "Crashed" = some (some (.ref C_Crashed))) (nq_Crashed : PySem.W.excIn K C_Crashed exB "Exception.__new__" = true) (nk_Crashed : PySem.W.keepIn K (.ref C_Crashed) = true) (nb_Crashed : PySem.W.subIn K (.ref C_Crashed) (.type "BaseException") = some true) (ny_Crashed : PySem.W.typeIn K (.ref C_Crashed) = some (.type "type"))
    (na_NoStore : PySem.W.nsIn K mainGlobals "NoStore" = some (some (.ref C_NoStore))) (nq_NoStore : PySem.W.excIn K C_NoStore exB "Exception.__new__" = true) (nk_NoStore : PySem.W.keepIn K (.ref C_NoStore) = true) (nb_NoStore : PySem.W.subIn K (.ref C_NoStore) (.type "BaseException") = some true) (ny_NoStore : PySem.W.typeIn K (.ref C_NoStore) = some (.type "type"))
    (na_SpatialError : PySem.W.nsIn K mainGlobals "SpatialError" = some (some (.ref C_SpatialError))) (nq_SpatialError : PySem.W.excIn K C_SpatialError exB "Exception.__new__" = true) (nk_SpatialError : PySem.W.keepIn K (.ref C_SpatialError) = true) (nb_SpatialError : PySem.W.subIn K (.ref C_SpatialError) (.type "BaseException") = some true) (ny_SpatialError : PySem.W.typeIn K (.ref C_SpatialError) = some (.type "type"))
    (na_TakenDisk : PySem.W.nsIn K mainGlobals "TakenDisk" = some (some (.ref C_TakenDisk))) (nq_TakenDisk : PySem.W.excIn K C_TakenDisk exB "Exception.__new__" = true) (nk_TakenDisk : PySem.W.keepIn K (.ref C_TakenDisk) = true) (nb_TakenDisk : PySem.W.subIn K (.ref C_TakenDisk) (.type "BaseException") = some true) (ny_TakenDisk : PySem.W.typeIn K (.ref C_TakenDisk) = some (.type "type"))
    (ea_BadBound : PySem.W.nsIn K mainGlobals "BadBound" = some (some (.ref C_BadBound)))
    (ex_BadBound : K.lookup C_BadBound = some (excClassObj nm_BadBound q_BadBound C_BadBound N_BadBound bs_BadBound [.ref S_BadBound, .type "Exception", .type "BaseException", .type "object"] true sn_BadBound sub_BadBound ab_BadBound col_BadBound dd_BadBound m0_BadBound m1_BadBound m2_BadBound m3_BadBound m5_BadBound "Exception.__new__"))
    (es_BadBound : PySem.W.findIn K (.ref C_BadBound) "__setattr__" = some (some (.builtin "object.__setattr__"))) (eg_BadBound : PySem.W.findIn K (.ref C_BadBound) "__getattribute__" = some (some (.builtin "BaseException.__getattribute__"))) (eh_BadBound : PySem.W.findIn K (.ref C_BadBound) "__getattr__" = some none) (en_BadBound : PySem.W.findIn K (.ref C_BadBound) "at" = some none)
    (ei_BadBound : PySem.W.findIn K (.ref C_BadBound) "__init__" = some (some (.ref fI_BadBound))) (et_BadBound : PySem.W.typeIn K (.ref fI_BadBound) = some (.type "function"))
    (el_BadBound : K.lookup fI_BadBound = some ⟨oc_eBadBound, od_eBadBound, .func (PySem.W.fnOf "__init__" "BadBound.__init__" (Eat.iA p1_BadBound p2_BadBound) (Eat.iB q1_BadBound q2_BadBound q3_BadBound q4_BadBound) Eat.iS .none .none dc_eBadBound pm_eBadBound an_eBadBound cd_eBadBound ct_eBadBound), sl_eBadBound⟩) (ec_BadBound : PySem.W.codeIn K cd_eBadBound "BadBound.__init__" = true)
    (ek_BadBound : PySem.W.keepIn K (.ref C_BadBound) = true) (eb_BadBound : PySem.W.subIn K (.ref C_BadBound) (.type "BaseException") = some true) (ey_BadBound : PySem.W.typeIn K (.ref C_BadBound) = some (.type "type")) (ed_BadBound : PySem.W.hasDictIn K C_BadBound = true) (ez_BadBound : PySem.W.isClsIn K C_BadBound = true) (ew_BadBound : PySem.W.subIn K (.ref C_BadBound) (.ref C_BadBound) = some true)
    (ea_BadCut : PySem.W.nsIn K mainGlobals "BadCut" = some (some (.ref C_BadCut)))
    (ex_BadCut : K.lookup C_BadCut = some (excClassObj nm_BadCut q_BadCut C_BadCut N_BadCut bs_BadCut [.ref S_BadCut, .type "Exception", .type "BaseException", .type "object"] true sn_BadCut sub_BadCut ab_BadCut col_BadCut dd_BadCut m0_BadCut m1_BadCut m2_BadCut m3_BadCut m5_BadCut "Exception.__new__"))
    (es_BadCut : PySem.W.findIn K (.ref C_BadCut) "__setattr__" = some (some (.builtin "object.__setattr__"))) (eg_BadCut : PySem.W.findIn K (.ref C_BadCut) "__getattribute__" = some (some (.builtin "BaseException.__getattribute__"))) (eh_BadCut : PySem.W.findIn K (.ref C_BadCut) "__getattr__" = some none) (en_BadCut : PySem.W.findIn K (.ref C_BadCut) "at" = some none)
    (ei_BadCut : PySem.W.findIn K (.ref C_BadCut) "__init__" = some (some (.ref fI_BadCut))) (et_BadCut : PySem.W.typeIn K (.ref fI_BadCut) = some (.type "function"))
    (el_BadCut : K.lookup fI_BadCut = some ⟨oc_eBadCut, od_eBadCut, .func (PySem.W.fnOf "__init__" "BadCut.__init__" (Eat.iA p1_BadCut p2_BadCut) (Eat.iB q1_BadCut q2_BadCut q3_BadCut q4_BadCut) Eat.iS .none .none dc_eBadCut pm_eBadCut an_eBadCut cd_eBadCut ct_eBadCut), sl_eBadCut⟩) (ec_BadCut : PySem.W.codeIn K cd_eBadCut "BadCut.__init__" = true)
    (ek_BadCut : PySem.W.keepIn K (.ref C_BadCut) = true) (eb_BadCut : PySem.W.subIn K (.ref C_BadCut) (.type "BaseException") = some true) (ey_BadCut : PySem.W.typeIn K (.ref C_BadCut) = some (.type "type")) (ed_BadCut : PySem.W.hasDictIn K C_BadCut = true) (ez_BadCut : PySem.W.isClsIn K C_BadCut = true) (ew_BadCut : PySem.W.subIn K (.ref C_BadCut) (.ref C_BadCut) = some true)
    (ea_BadLine : PySem.W.nsIn K mainGlobals "BadLine" = some (some (.ref C_BadLine)))
    (ex_BadLine : K.lookup C_BadLine = some (excClassObj nm_BadLine q_BadLine C_BadLine N_BadLine bs_BadLine [.ref S_BadLine, .type "Exception", .type "BaseException", .type "object"] true sn_BadLine sub_BadLine ab_BadLine col_BadLine dd_BadLine m0_BadLine m1_BadLine m2_BadLine m3_BadLine m5_BadLine "Exception.__new__"))
    (es_BadLine : PySem.W.findIn K (.ref C_BadLine) "__setattr__" = some (some (.builtin "object.__setattr__"))) (eg_BadLine : PySem.W.findIn K (.ref C_BadLine) "__getattribute__" = some (some (.builtin "BaseException.__getattribute__"))) (eh_BadLine : PySem.W.findIn K (.ref C_BadLine) "__getattr__" = some none) (en_BadLine : PySem.W.findIn K (.ref C_BadLine) "at" = some none)
    (ei_BadLine : PySem.W.findIn K (.ref C_BadLine) "__init__" = some (some (.ref fI_BadLine))) (et_BadLine : PySem.W.typeIn K (.ref fI_BadLine) = some (.type "function"))
    (el_BadLine : K.lookup fI_BadLine = some ⟨oc_eBadLine, od_eBadLine, .func (PySem.W.fnOf "__init__" "BadLine.__init__" (Eat.iA p1_BadLine p2_BadLine) (Eat.iB q1_BadLine q2_BadLine q3_BadLine q4_BadLine) Eat.iS .none .none dc_eBadLine pm_eBadLine an_eBadLine cd_eBadLine ct_eBadLine), sl_eBadLine⟩) (ec_BadLine : PySem.W.codeIn K cd_eBadLine "BadLine.__init__" = true)
    (ek_BadLine : PySem.W.keepIn K (.ref C_BadLine) = true) (eb_BadLine : PySem.W.subIn K (.ref C_BadLine) (.type "BaseException") = some true) (ey_BadLine : PySem.W.typeIn K (.ref C_BadLine) = some (.type "type")) (ed_BadLine : PySem.W.hasDictIn K C_BadLine = true) (ez_BadLine : PySem.W.isClsIn K C_BadLine = true) (ew_BadLine : PySem.W.subIn K (.ref C_BadLine) (.ref C_BadLine) = some true)
    (ea_BadSyntax : PySem.W.nsIn K mainGlobals "BadSyntax" = some (some (.ref C_BadSyntax)))
    (ex_BadSyntax : K.lookup C_BadSyntax = some (excClassObj nm_BadSyntax q_BadSyntax C_BadSyntax N_BadSyntax bs_BadSyntax [.ref S_BadSyntax, .type "Exception", .type "BaseException", .type "object"] true sn_BadSyntax sub_BadSyntax ab_BadSyntax col_BadSyntax dd_BadSyntax m0_BadSyntax m1_BadSyntax m2_BadSyntax m3_BadSyntax m5_BadSyntax "Exception.__new__"))
    (es_BadSyntax : PySem.W.findIn K (.ref C_BadSyntax) "__setattr__" = some (some (.builtin "object.__setattr__"))) (eg_BadSyntax : PySem.W.findIn K (.ref C_BadSyntax) "__getattribute__" = some (some (.builtin "BaseException.__getattribute__"))) (eh_BadSyntax : PySem.W.findIn K (.ref C_BadSyntax) "__getattr__" = some none) (en_BadSyntax : PySem.W.findIn K (.ref C_BadSyntax) "at" = some none)
    (ei_BadSyntax : PySem.W.findIn K (.ref C_BadSyntax) "__init__" = some (some (.ref fI_BadSyntax))) (et_BadSyntax : PySem.W.typeIn K (.ref fI_BadSyntax) = some (.type "function"))
    (el_BadSyntax : K.lookup fI_BadSyntax = some ⟨oc_eBadSyntax, od_eBadSyntax, .func (PySem.W.fnOf "__init__" "BadSyntax.__init__" (Eat.iA p1_BadSyntax p2_BadSyntax) (Eat.iB q1_BadSyntax q2_BadSyntax q3_BadSyntax q4_BadSyntax) Eat.iS .none .none dc_eBadSyntax pm_eBadSyntax an_eBadSyntax cd_eBadSyntax ct_eBadSyntax), sl_eBadSyntax⟩) (ec_BadSyntax : PySem.W.codeIn K cd_eBadSyntax "BadSyntax.__init__" = true)
    (ek_BadSyntax : PySem.W.keepIn K (.ref C_BadSyntax) = true) (eb_BadSyntax : PySem.W.subIn K (.ref C_BadSyntax) (.type "BaseException") = some true) (ey_BadSyntax : PySem.W.typeIn K (.ref C_BadSyntax) = some (.type "type")) (ed_BadSyntax : PySem.W.hasDictIn K C_BadSyntax = true) (ez_BadSyntax : PySem.W.isClsIn K C_BadSyntax = true) (ew_BadSyntax : PySem.W.subIn K (.ref C_BadSyntax) (.ref C_BadSyntax) = some true)
    (ea_BadValue : PySem.W.nsIn K mainGlobals "BadValue" = some (some (.ref C_BadValue)))
    (ex_BadValue : K.lookup C_BadValue = some (excClassObj nm_BadValue q_BadValue C_BadValue N_BadValue bs_BadValue [.ref S_BadValue, .type "Exception", .type "BaseException", .type "object"] true sn_BadValue sub_BadValue ab_BadValue col_BadValue dd_BadValue m0_BadValue m1_BadValue m2_BadValue m3_BadValue m5_BadValue "Exception.__new__"))
    (es_BadValue : PySem.W.findIn K (.ref C_BadValue) "__setattr__" = some (some (.builtin "object.__setattr__"))) (eg_BadValue : PySem.W.findIn K (.ref C_BadValue) "__getattribute__" = some (some (.builtin "BaseException.__getattribute__"))) (eh_BadValue : PySem.W.findIn K (.ref C_BadValue) "__getattr__" = some none) (en_BadValue : PySem.W.findIn K (.ref C_BadValue) "at" = some none)
    (ei_BadValue : PySem.W.findIn K (.ref C_BadValue) "__init__" = some (some (.ref fI_BadValue))) (et_BadValue : PySem.W.typeIn K (.ref fI_BadValue) = some (.type "function"))
    (el_BadValue : K.lookup fI_BadValue = some ⟨oc_eBadValue, od_eBadValue, .func (PySem.W.fnOf "__init__" "BadValue.__init__" (Eat.iA p1_BadValue p2_BadValue) (Eat.iB q1_BadValue q2_BadValue q3_BadValue q4_BadValue) Eat.iS .none .none dc_eBadValue pm_eBadValue an_eBadValue cd_eBadValue ct_eBadValue), sl_eBadValue⟩) (ec_BadValue : PySem.W.codeIn K cd_eBadValue "BadValue.__init__" = true)
    (ek_BadValue : PySem.W.keepIn K (.ref C_BadValue) = true) (eb_BadValue : PySem.W.subIn K (.ref C_BadValue) (.type "BaseException") = some true) (ey_BadValue : PySem.W.typeIn K (.ref C_BadValue) = some (.type "type")) (ed_BadValue : PySem.W.hasDictIn K C_BadValue = true) (ez_BadValue : PySem.W.isClsIn K C_BadValue = true) (ew_BadValue : PySem.W.subIn K (.ref C_BadValue) (.ref C_BadValue) = some true)
    (ea_NoItem : PySem.W.nsIn K mainGlobals "NoItem" = some (some (.ref C_NoItem)))
    (ex_NoItem : K.lookup C_NoItem = some (excClassObj nm_NoItem q_NoItem C_NoItem N_NoItem bs_NoItem [.ref S_NoItem, .type "Exception", .type "BaseException", .type "object"] true sn_NoItem sub_NoItem ab_NoItem col_NoItem dd_NoItem m0_NoItem m1_NoItem m2_NoItem m3_NoItem m5_NoItem "Exception.__new__"))
    (es_NoItem : PySem.W.findIn K (.ref C_NoItem) "__setattr__" = some (some (.builtin "object.__setattr__"))) (eg_NoItem : PySem.W.findIn K (.ref C_NoItem) "__getattribute__" = some (some (.builtin "BaseException.__getattribute__"))) (eh_NoItem : PySem.W.findIn K (.ref C_NoItem) "__getattr__" = some none) (en_NoItem : PySem.W.findIn K (.ref C_NoItem) "key" = some none)
    (ei_NoItem : PySem.W.findIn K (.ref C_NoItem) "__init__" = some (some (.ref fI_NoItem))) (et_NoItem : PySem.W.typeIn K (.ref fI_NoItem) = some (.type "function"))
    (el_NoItem : K.lookup fI_NoItem = some ⟨oc_eNoItem, od_eNoItem, .func (PySem.W.fnOf "__init__" "NoItem.__init__" (Ekey.iA p1_NoItem p2_NoItem) (Ekey.iB q1_NoItem q2_NoItem q3_NoItem q4_NoItem) Ekey.iS .none .none dc_eNoItem pm_eNoItem an_eNoItem cd_eNoItem ct_eNoItem), sl_eNoItem⟩) (ec_NoItem : PySem.W.codeIn K cd_eNoItem "NoItem.__init__" = true)
    (ek_NoItem : PySem.W.keepIn K (.ref C_NoItem) = true) (eb_NoItem : PySem.W.subIn K (.ref C_NoItem) (.type "BaseException") = some true) (ey_NoItem : PySem.W.typeIn K (.ref C_NoItem) = some (.type "type")) (ed_NoItem : PySem.W.hasDictIn K C_NoItem = true) (ez_NoItem : PySem.W.isClsIn K C_NoItem = true) (ew_NoItem : PySem.W.subIn K (.ref C_NoItem) (.ref C_NoItem) = some true)
    (ea_NoPage : PySem.W.nsIn K mainGlobals "NoPage" = some (some (.ref C_NoPage)))
    (ex_NoPage : K.lookup C_NoPage = some (excClassObj nm_NoPage q_NoPage C_NoPage N_NoPage bs_NoPage [.ref S_NoPage, .type "Exception", .type "BaseException", .type "object"] true sn_NoPage sub_NoPage ab_NoPage col_NoPage dd_NoPage m0_NoPage m1_NoPage m2_NoPage m3_NoPage m5_NoPage "Exception.__new__"))
    (es_NoPage : PySem.W.findIn K (.ref C_NoPage) "__setattr__" = some (some (.builtin "object.__setattr__"))) (eg_NoPage : PySem.W.findIn K (.ref C_NoPage) "__getattribute__" = some (some (.builtin "BaseException.__getattribute__"))) (eh_NoPage : PySem.W.findIn K (.ref C_NoPage) "__getattr__" = some none) (en_NoPage : PySem.W.findIn K (.ref C_NoPage) "number" = some none)
    (ei_NoPage : PySem.W.findIn K (.ref C_NoPage) "__init__" = some (some (.ref fI_NoPage))) (et_NoPage : PySem.W.typeIn K (.ref fI_NoPage) = some (.type "function"))
    (el_NoPage : K.lookup fI_NoPage = some ⟨oc_eNoPage, od_eNoPage, .func (PySem.W.fnOf "__init__" "NoPage.__init__" (Enumber.iA p1_NoPage p2_NoPage) (Enumber.iB q1_NoPage q2_NoPage q3_NoPage q4_NoPage) Enumber.iS .none .none dc_eNoPage pm_eNoPage an_eNoPage cd_eNoPage ct_eNoPage), sl_eNoPage⟩) (ec_NoPage : PySem.W.codeIn K cd_eNoPage "NoPage.__init__" = true)
    (ek_NoPage : PySem.W.keepIn K (.ref C_NoPage) = true) (eb_NoPage : PySem.W.subIn K (.ref C_NoPage) (.type "BaseException") = some true) (ey_NoPage : PySem.W.typeIn K (.ref C_NoPage) = some (.type "type")) (ed_NoPage : PySem.W.hasDictIn K C_NoPage = true) (ez_NoPage : PySem.W.isClsIn K C_NoPage = true) (ew_NoPage : PySem.W.subIn K (.ref C_NoPage) (.ref C_NoPage) = some true)
    (ea_OutOfRange : PySem.W.nsIn K mainGlobals "OutOfRange" = some (some (.ref C_OutOfRange)))
    (ex_OutOfRange : K.lookup C_OutOfRange = some (excClassObj nm_OutOfRange q_OutOfRange C_OutOfRange N_OutOfRange bs_OutOfRange [.ref S_OutOfRange, .type "Exception", .type "BaseException", .type "object"] true sn_OutOfRange sub_OutOfRange ab_OutOfRange col_OutOfRange dd_OutOfRange m0_OutOfRange m1_OutOfRange m2_OutOfRange m3_OutOfRange m5_OutOfRange "Exception.__new__"))
    (es_OutOfRange : PySem.W.findIn K (.ref C_OutOfRange) "__setattr__" = some (some (.builtin "object.__setattr__"))) (eg_OutOfRange : PySem.W.findIn K (.ref C_OutOfRange) "__getattribute__" = some (some (.builtin "BaseException.__getattribute__"))) (eh_OutOfRange : PySem.W.findIn K (.ref C_OutOfRange) "__getattr__" = some none) (en_OutOfRange : PySem.W.findIn K (.ref C_OutOfRange) "key" = some none)
    (ei_OutOfRange : PySem.W.findIn K (.ref C_OutOfRange) "__init__" = some (some (.ref fI_OutOfRange))) (et_OutOfRange : PySem.W.typeIn K (.ref fI_OutOfRange) = some (.type "function"))
    (el_OutOfRange : K.lookup fI_OutOfRange = some ⟨oc_eOutOfRange, od_eOutOfRange, .func (PySem.W.fnOf "__init__" "OutOfRange.__init__" (Ekey.iA p1_OutOfRange p2_OutOfRange) (Ekey.iB q1_OutOfRange q2_OutOfRange q3_OutOfRange q4_OutOfRange) Ekey.iS .none .none dc_eOutOfRange pm_eOutOfRange an_eOutOfRange cd_eOutOfRange ct_eOutOfRange), sl_eOutOfRange⟩) (ec_OutOfRange : PySem.W.codeIn K cd_eOutOfRange "OutOfRange.__init__" = true)
    (ek_OutOfRange : PySem.W.keepIn K (.ref C_OutOfRange) = true) (eb_OutOfRange : PySem.W.subIn K (.ref C_OutOfRange) (.type "BaseException") = some true) (ey_OutOfRange : PySem.W.typeIn K (.ref C_OutOfRange) = some (.type "type")) (ed_OutOfRange : PySem.W.hasDictIn K C_OutOfRange = true) (ez_OutOfRange : PySem.W.isClsIn K C_OutOfRange = true) (ew_OutOfRange : PySem.W.subIn K (.ref C_OutOfRange) (.ref C_OutOfRange) = some true)
    (ea_TakenKey : PySem.W.nsIn K mainGlobals "TakenKey" = some (some (.ref C_TakenKey)))
    (ex_TakenKey : K.lookup C_TakenKey = some (excClassObj nm_TakenKey q_TakenKey C_TakenKey N_TakenKey bs_TakenKey [.ref S_TakenKey, .type "Exception", .type "BaseException", .type "object"] true sn_TakenKey sub_TakenKey ab_TakenKey col_TakenKey dd_TakenKey m0_TakenKey m1_TakenKey m2_TakenKey m3_TakenKey m5_TakenKey "Exception.__new__"))
    (es_TakenKey : PySem.W.findIn K (.ref C_TakenKey) "__setattr__" = some (some (.builtin "object.__setattr__"))) (eg_TakenKey : PySem.W.findIn K (.ref C_TakenKey) "__getattribute__" = some (some (.builtin "BaseException.__getattribute__"))) (eh_TakenKey : PySem.W.findIn K (.ref C_TakenKey) "__getattr__" = some none) (en_TakenKey : PySem.W.findIn K (.ref C_TakenKey) "key" = some none)
    (ei_TakenKey : PySem.W.findIn K (.ref C_TakenKey) "__init__" = some (some (.ref fI_TakenKey))) (et_TakenKey : PySem.W.typeIn K (.ref fI_TakenKey) = some (.type "function"))
    (el_TakenKey : K.lookup fI_TakenKey = some ⟨oc_eTakenKey, od_eTakenKey, .func (PySem.W.fnOf "__init__" "TakenKey.__init__" (Ekey.iA p1_TakenKey p2_TakenKey) (Ekey.iB q1_TakenKey q2_TakenKey q3_TakenKey q4_TakenKey) Ekey.iS .none .none dc_eTakenKey pm_eTakenKey an_eTakenKey cd_eTakenKey ct_eTakenKey), sl_eTakenKey⟩) (ec_TakenKey : PySem.W.codeIn K cd_eTakenKey "TakenKey.__init__" = true)
    (ek_TakenKey : PySem.W.keepIn K (.ref C_TakenKey) = true) (eb_TakenKey : PySem.W.subIn K (.ref C_TakenKey) (.type "BaseException") = some true) (ey_TakenKey : PySem.W.typeIn K (.ref C_TakenKey) = some (.type "type")) (ed_TakenKey : PySem.W.hasDictIn K C_TakenKey = true) (ez_TakenKey : PySem.W.isClsIn K C_TakenKey = true) (ew_TakenKey : PySem.W.subIn K (.ref C_TakenKey) (.ref C_TakenKey) = some true)
    (ea_TooMany : PySem.W.nsIn K mainGlobals "TooMany" = some (some (.ref C_TooMany)))
    (ex_TooMany : K.lookup C_TooMany = some (excClassObj nm_TooMany q_TooMany C_TooMany N_TooMany bs_TooMany [.ref S_TooMany, .type "Exception", .type "BaseException", .type "object"] true sn_TooMany sub_TooMany ab_TooMany col_TooMany dd_TooMany m0_TooMany m1_TooMany m2_TooMany m3_TooMany m5_TooMany "Exception.__new__"))
    (es_TooMany : PySem.W.findIn K (.ref C_TooMany) "__setattr__" = some (some (.builtin "object.__setattr__"))) (eg_TooMany : PySem.W.findIn K (.ref C_TooMany) "__getattribute__" = some (some (.builtin "BaseException.__getattribute__"))) (eh_TooMany : PySem.W.findIn K (.ref C_TooMany) "__getattr__" = some none) (en_TooMany : PySem.W.findIn K (.ref C_TooMany) "word" = some none)
    (ei_TooMany : PySem.W.findIn K (.ref C_TooMany) "__init__" = some (some (.ref fI_TooMany))) (et_TooMany : PySem.W.typeIn K (.ref fI_TooMany) = some (.type "function"))
    (el_TooMany : K.lookup fI_TooMany = some ⟨oc_eTooMany, od_eTooMany, .func (PySem.W.fnOf "__init__" "TooMany.__init__" (Eword.iA p1_TooMany p2_TooMany) (Eword.iB q1_TooMany q2_TooMany q3_TooMany q4_TooMany) Eword.iS .none .none dc_eTooMany pm_eTooMany an_eTooMany cd_eTooMany ct_eTooMany), sl_eTooMany⟩) (ec_TooMany : PySem.W.codeIn K cd_eTooMany "TooMany.__init__" = true)
    (ek_TooMany : PySem.W.keepIn K (.ref C_TooMany) = true) (eb_TooMany : PySem.W.subIn K (.ref C_TooMany) (.type "BaseException") = some true) (ey_TooMany : PySem.W.typeIn K (.ref C_TooMany) = some (.type "type")) (ed_TooMany : PySem.W.hasDictIn K C_TooMany = true) (ez_TooMany : PySem.W.isClsIn K C_TooMany = true) (ew_TooMany : PySem.W.subIn K (.ref C_TooMany) (.ref C_TooMany) = some true)
    (xm_BadPages_SpatialError : PySem.W.subIn K (.ref C_BadPages) (.ref C_SpatialError) = some true) (xc_BadPages_SpatialError : PySem.W.isClsIn K C_SpatialError = true)
    (xm_BadValue_SpatialError : PySem.W.subIn K (.ref C_BadValue) (.ref C_SpatialError) = some true) (xc_BadValue_SpatialError : PySem.W.isClsIn K C_SpatialError = true)
    (xm_Crashed_SpatialError : PySem.W.subIn K (.ref C_Crashed) (.ref C_SpatialError) = some true) (xc_Crashed_SpatialError : PySem.W.isClsIn K C_SpatialError = true)
    (z_ArithmeticError : PySem.W.nsIn K mainGlobals "ArithmeticError" = some none)
    (z_Exception : PySem.W.nsIn K mainGlobals "Exception" = some none)
    (z_LookupError : PySem.W.nsIn K mainGlobals "LookupError" = some none)
    (z_ValueError : PySem.W.nsIn K mainGlobals "ValueError" = some none)
    (z_bool : PySem.W.nsIn K mainGlobals "bool" = some none)
    (z_int : PySem.W.nsIn K mainGlobals "int" = some none)
    (z_isinstance : PySem.W.nsIn K mainGlobals "isinstance" = some none)
    (z_len : PySem.W.nsIn K mainGlobals "len" = some none)
    (z_range : PySem.W.nsIn K mainGlobals "range" = some none)
    (z_str : PySem.W.nsIn K mainGlobals "str" = some none)
    (z_tuple : PySem.W.nsIn K mainGlobals "tuple" = some none)
    (tb_q : kitB K [C_BadValue, C_BadCut, C_BadBound, C_BadSyntax, C_BadLine, C_NoItem, C_TakenKey, C_OutOfRange, C_NoPage, C_TooMany, C_BadPages, C_Crashed, C_NoStore, C_TakenDisk, C_Closed] C_SpatialError = true) (tb_n : PySem.W.specialIn K (.builtin "object.__class__") "__get__" = some (some (.builtin "getset_descriptor.__get__"))) (tb_t : PySem.W.takesIn K (.builtin "object.__class__") = some true) :
    ∃ fd : FuncData, (∀ (s : Shared) (v : Value), BindsTo s fd ⟨[v], []⟩ [("script", v)]) ∧ ∀ base : Heap, K.In base → base.Ns mainGlobals mg → FnOk l.prog w K mg base CX0 5 fa fd ["script"] (sp_law K) := by
  have e := hfa.symm.trans (PySem.W.mg_of X G a_law)
  cases e
  have T : Txt K mg C_BadPages C_Closed C_Crashed C_NoStore C_SpatialError C_TakenDisk C_BadBound fI_BadBound C_BadCut fI_BadCut C_BadLine fI_BadLine C_BadSyntax fI_BadSyntax C_BadValue fI_BadValue C_NoItem fI_NoItem C_NoPage fI_NoPage C_OutOfRange fI_OutOfRange C_TakenKey fI_TakenKey C_TooMany fI_TooMany := { n_BadPages := { gC := PySem.W.mg_of X G na_BadPages, q := nq_BadPages, kC := nk_BadPages, exC := nb_BadPages, tyC := ny_BadPages }, n_Closed := { gC := PySem.W.mg_of X G na_Closed, q := nq_Closed, kC := nk_Closed, exC := nb_Closed, tyC := ny_Closed }, n_Crashed := { gC := PySem.W.mg_of X G na_Crashed, q := nq_Crashed, kC := nk_Crashed, exC := nb_Crashed, tyC := ny_Crashed }, n_NoStore := { gC := PySem.W.mg_of X G na_NoStore, q := nq_NoStore, kC := nk_NoStore, exC := nb_NoStore, tyC := ny_NoStore }, n_SpatialError := { gC := PySem.W.mg_of X G na_SpatialError, q := nq_SpatialError, kC := nk_SpatialError, exC := nb_SpatialError, tyC := ny_SpatialError }, n_TakenDisk := { gC := PySem.W.mg_of X G na_TakenDisk, q := nq_TakenDisk, kC := nk_TakenDisk, exC := nb_TakenDisk, tyC := ny_TakenDisk }, e_BadBound := { gC := PySem.W.mg_of X G ea_BadBound, cls := ⟨nm_BadBound, q_BadBound, N_BadBound, bs_BadBound, _, sn_BadBound, sub_BadBound, ab_BadBound, col_BadBound, dd_BadBound, m0_BadBound, m1_BadBound, m2_BadBound, m3_BadBound, m5_BadBound, ex_BadBound, (show exRow exEnd = true by decide +kernel)⟩, sa := es_BadBound, ga := eg_BadBound, gg := eh_BadBound, noN := en_BadBound, iC := ei_BadBound, tC := et_BadBound, kC := ek_BadBound, exC := eb_BadBound, tyC := ey_BadBound, hdC := ed_BadBound, te := names_self eb_BadBound ez_BadBound ey_BadBound ew_BadBound, fn := ⟨_, _, _, _, _, _, _, _, _, _, _, _, _, _, el_BadBound, ec_BadBound⟩ }, e_BadCut := { gC := PySem.W.mg_of X G ea_BadCut, cls := ⟨nm_BadCut, q_BadCut, N_BadCut, bs_BadCut, _, sn_BadCut, sub_BadCut, ab_BadCut, col_BadCut, dd_BadCut, m0_BadCut, m1_BadCut, m2_BadCut, m3_BadCut, m5_BadCut, ex_BadCut, (show exRow exEnd = true by decide +kernel)⟩, sa := es_BadCut, ga := eg_BadCut, gg := eh_BadCut, noN := en_BadCut, iC := ei_BadCut, tC := et_BadCut, kC := ek_BadCut, exC := eb_BadCut, tyC := ey_BadCut, hdC := ed_BadCut, te := names_self eb_BadCut ez_BadCut ey_BadCut ew_BadCut, fn := ⟨_, _, _, _, _, _, _, _, _, _, _, _, _, _, el_BadCut, ec_BadCut⟩ }, e_BadLine := { gC := PySem.W.mg_of X G ea_BadLine, cls := ⟨nm_BadLine, q_BadLine, N_BadLine, bs_BadLine, _, sn_BadLine, sub_BadLine, ab_BadLine, col_BadLine, dd_BadLine, m0_BadLine, m1_BadLine, m2_BadLine, m3_BadLine, m5_BadLine, ex_BadLine, (show exRow exEnd = true by decide +kernel)⟩, sa := es_BadLine, ga := eg_BadLine, gg := eh_BadLine, noN := en_BadLine, iC := ei_BadLine, tC := et_BadLine, kC := ek_BadLine, exC := eb_BadLine, tyC := ey_BadLine, hdC := ed_BadLine, te := names_self eb_BadLine ez_BadLine ey_BadLine ew_BadLine, fn := ⟨_, _, _, _, _, _, _, _, _, _, _, _, _, _, el_BadLine, ec_BadLine⟩ }, e_BadSyntax := { gC := PySem.W.mg_of X G ea_BadSyntax, cls := ⟨nm_BadSyntax, q_BadSyntax, N_BadSyntax, bs_BadSyntax, _, sn_BadSyntax, sub_BadSyntax, ab_BadSyntax, col_BadSyntax, dd_BadSyntax, m0_BadSyntax, m1_BadSyntax, m2_BadSyntax, m3_BadSyntax, m5_BadSyntax, ex_BadSyntax, (show exRow exEnd = true by decide +kernel)⟩, sa := es_BadSyntax, ga := eg_BadSyntax, gg := eh_BadSyntax, noN := en_BadSyntax, iC := ei_BadSyntax, tC := et_BadSyntax, kC := ek_BadSyntax, exC := eb_BadSyntax, tyC := ey_BadSyntax, hdC := ed_BadSyntax, te := names_self eb_BadSyntax ez_BadSyntax ey_BadSyntax ew_BadSyntax, fn := ⟨_, _, _, _, _, _, _, _, _, _, _, _, _, _, el_BadSyntax, ec_BadSyntax⟩ }, e_BadValue := { gC := PySem.W.mg_of X G ea_BadValue, cls := ⟨nm_BadValue, q_BadValue, N_BadValue, bs_BadValue, _, sn_BadValue, sub_BadValue, ab_BadValue, col_BadValue, dd_BadValue, m0_BadValue, m1_BadValue, m2_BadValue, m3_BadValue, m5_BadValue, ex_BadValue, (show exRow exEnd = true by decide +kernel)⟩, sa := es_BadValue, ga := eg_BadValue, gg := eh_BadValue, noN := en_BadValue, iC := ei_BadValue, tC := et_BadValue, kC := ek_BadValue, exC := eb_BadValue, tyC := ey_BadValue, hdC := ed_BadValue, te := names_self eb_BadValue ez_BadValue ey_BadValue ew_BadValue, fn := ⟨_, _, _, _, _, _, _, _, _, _, _, _, _, _, el_BadValue, ec_BadValue⟩ }, e_NoItem := { gC := PySem.W.mg_of X G ea_NoItem, cls := ⟨nm_NoItem, q_NoItem, N_NoItem, bs_NoItem, _, sn_NoItem, sub_NoItem, ab_NoItem, col_NoItem, dd_NoItem, m0_NoItem, m1_NoItem, m2_NoItem, m3_NoItem, m5_NoItem, ex_NoItem, (show exRow exEnd = true by decide +kernel)⟩, sa := es_NoItem, ga := eg_NoItem, gg := eh_NoItem, noN := en_NoItem, iC := ei_NoItem, tC := et_NoItem, kC := ek_NoItem, exC := eb_NoItem, tyC := ey_NoItem, hdC := ed_NoItem, te := names_self eb_NoItem ez_NoItem ey_NoItem ew_NoItem, fn := ⟨_, _, _, _, _, _, _, _, _, _, _, _, _, _, el_NoItem, ec_NoItem⟩ }, e_NoPage := { gC := PySem.W.mg_of X G ea_NoPage, cls := ⟨nm_NoPage, q_NoPage, N_NoPage, bs_NoPage, _, sn_NoPage, sub_NoPage, ab_NoPage, col_NoPage, dd_NoPage, m0_NoPage, m1_NoPage, m2_NoPage, m3_NoPage, m5_NoPage, ex_NoPage, (show exRow exEnd = true by decide +kernel)⟩, sa := es_NoPage, ga := eg_NoPage, gg := eh_NoPage, noN := en_NoPage, iC := ei_NoPage, tC := et_NoPage, kC := ek_NoPage, exC := eb_NoPage, tyC := ey_NoPage, hdC := ed_NoPage, te := names_self eb_NoPage ez_NoPage ey_NoPage ew_NoPage, fn := ⟨_, _, _, _, _, _, _, _, _, _, _, _, _, _, el_NoPage, ec_NoPage⟩ }, e_OutOfRange := { gC := PySem.W.mg_of X G ea_OutOfRange, cls := ⟨nm_OutOfRange, q_OutOfRange, N_OutOfRange, bs_OutOfRange, _, sn_OutOfRange, sub_OutOfRange, ab_OutOfRange, col_OutOfRange, dd_OutOfRange, m0_OutOfRange, m1_OutOfRange, m2_OutOfRange, m3_OutOfRange, m5_OutOfRange, ex_OutOfRange, (show exRow exEnd = true by decide +kernel)⟩, sa := es_OutOfRange, ga := eg_OutOfRange, gg := eh_OutOfRange, noN := en_OutOfRange, iC := ei_OutOfRange, tC := et_OutOfRange, kC := ek_OutOfRange, exC := eb_OutOfRange, tyC := ey_OutOfRange, hdC := ed_OutOfRange, te := names_self eb_OutOfRange ez_OutOfRange ey_OutOfRange ew_OutOfRange, fn := ⟨_, _, _, _, _, _, _, _, _, _, _, _, _, _, el_OutOfRange, ec_OutOfRange⟩ }, e_TakenKey := { gC := PySem.W.mg_of X G ea_TakenKey, cls := ⟨nm_TakenKey, q_TakenKey, N_TakenKey, bs_TakenKey, _, sn_TakenKey, sub_TakenKey, ab_TakenKey, col_TakenKey, dd_TakenKey, m0_TakenKey, m1_TakenKey, m2_TakenKey, m3_TakenKey, m5_TakenKey, ex_TakenKey, (show exRow exEnd = true by decide +kernel)⟩, sa := es_TakenKey, ga := eg_TakenKey, gg := eh_TakenKey, noN := en_TakenKey, iC := ei_TakenKey, tC := et_TakenKey, kC := ek_TakenKey, exC := eb_TakenKey, tyC := ey_TakenKey, hdC := ed_TakenKey, te := names_self eb_TakenKey ez_TakenKey ey_TakenKey ew_TakenKey, fn := ⟨_, _, _, _, _, _, _, _, _, _, _, _, _, _, el_TakenKey, ec_TakenKey⟩ }, e_TooMany := { gC := PySem.W.mg_of X G ea_TooMany, cls := ⟨nm_TooMany, q_TooMany, N_TooMany, bs_TooMany, _, sn_TooMany, sub_TooMany, ab_TooMany, col_TooMany, dd_TooMany, m0_TooMany, m1_TooMany, m2_TooMany, m3_TooMany, m5_TooMany, ex_TooMany, (show exRow exEnd = true by decide +kernel)⟩, sa := es_TooMany, ga := eg_TooMany, gg := eh_TooMany, noN := en_TooMany, iC := ei_TooMany, tC := et_TooMany, kC := ek_TooMany, exC := eb_TooMany, tyC := ey_TooMany, hdC := ed_TooMany, te := names_self eb_TooMany ez_TooMany ey_TooMany ew_TooMany, fn := ⟨_, _, _, _, _, _, _, _, _, _, _, _, _, _, el_TooMany, ec_TooMany⟩ }, x_BadPages_SpatialError := names_of nb_SpatialError xc_BadPages_SpatialError ny_SpatialError xm_BadPages_SpatialError, x_BadValue_SpatialError := names_of nb_SpatialError xc_BadValue_SpatialError ny_SpatialError xm_BadValue_SpatialError, x_Crashed_SpatialError := names_of nb_SpatialError xc_Crashed_SpatialError ny_SpatialError xm_Crashed_SpatialError, b_ArithmeticError := PySem.W.mg_none_of X G z_ArithmeticError, b_Exception := PySem.W.mg_none_of X G z_Exception, b_LookupError := PySem.W.mg_none_of X G z_LookupError, b_ValueError := PySem.W.mg_none_of X G z_ValueError, b_bool := PySem.W.mg_none_of X G z_bool, b_int := PySem.W.mg_none_of X G z_int, b_isinstance := PySem.W.mg_none_of X G z_isinstance, b_len := PySem.W.mg_none_of X G z_len, b_range := PySem.W.mg_none_of X G z_range, b_str := PySem.W.mg_none_of X G z_str, b_tuple := PySem.W.mg_none_of X G z_tuple, tab := KitT.of tb_q tb_n tb_t }
  have F__law_so := fun_mk (st := s__law_so) l__law_so c__law_so k__law_so
  have b__law_so := F__law_so.binds (ps := ["found", "meant"]) fun _ _ _ _ _ _ us hl => match us, hl with | [_, _], _ => rfl
  have m__law_so := PySem.W.mg_of X G a__law_so
  have F__law_numbers := fun_mk (st := s__law_numbers) l__law_numbers c__law_numbers k__law_numbers
  have b__law_numbers := F__law_numbers.binds (ps := ["script"]) fun _ _ _ _ _ _ us hl => match us, hl with | [_], _ => rfl
  have m__law_numbers := PySem.W.mg_of X G a__law_numbers
  have F__law_draw := fun_mk (st := s__law_draw) l__law_draw c__law_draw k__law_draw
  have b__law_draw := F__law_draw.binds (ps := ["row", "at", "limit"]) fun _ _ _ _ _ _ us hl => match us, hl with | [_, _, _], _ => rfl
  have m__law_draw := PySem.W.mg_of X G a__law_draw
  have F__law_take := fun_mk (st := s__law_take) l__law_take c__law_take k__law_take
  have b__law_take := F__law_take.binds (ps := ["row", "spot", "limit"]) fun _ _ _ _ _ _ us hl => match us, hl with | [_, _, _], _ => rfl
  have m__law_take := PySem.W.mg_of X G a__law_take
  have F__law_wide := fun_mk (st := s__law_wide) l__law_wide c__law_wide k__law_wide
  have b__law_wide := F__law_wide.binds (ps := ["row", "spot", "limit"]) fun _ _ _ _ _ _ us hl => match us, hl with | [_, _, _], _ => rfl
  have m__law_wide := PySem.W.mg_of X G a__law_wide
  have F__law_of := fun_mk (st := s__law_of) l__law_of c__law_of k__law_of
  have b__law_of := F__law_of.binds (ps := ["value"]) fun _ _ _ _ _ _ us hl => match us, hl with | [_], _ => rfl
  have m__law_of := PySem.W.mg_of X G a__law_of
  have F__law_foreign := fun_mk (st := s__law_foreign) l__law_foreign c__law_foreign k__law_foreign
  have b__law_foreign := F__law_foreign.binds (ps := ["value"]) fun _ _ _ _ _ _ us hl => match us, hl with | [_], _ => rfl
  have m__law_foreign := PySem.W.mg_of X G a__law_foreign
  have F__law_caught := fun_mk (st := s__law_caught) l__law_caught c__law_caught k__law_caught
  have b__law_caught := F__law_caught.binds (ps := ["at"]) fun _ _ _ _ _ _ us hl => match us, hl with | [_], _ => rfl
  have m__law_caught := PySem.W.mg_of X G a__law_caught
  have F_law := fun_mk (st := s_law) l_law c_law k_law
  have b_law := F_law.binds (ps := ["script"]) fun _ _ _ _ _ _ us hl => match us, hl with | [_], _ => rfl
  have m_law := PySem.W.mg_of X G a_law
  refine ⟨PySem.W.fnOf "law" "law" (defArgs s_law) (defBody s_law) (defScope s_law) .none kV_law dc_law pm_law an_law cd_law ct_law, fun s v => .of_eq rfl, fun base _ _ => ?_⟩
  have O__law_so : Ok l.prog w K mg base 4 "_law_so" ["found", "meant"] (sp__law_so 4) := rok__law_so F__law_so T m__law_so b__law_so 4
  have Q__law_numbers := ok__law_numbers (P := l.prog) (w := w) (base := base) F__law_numbers T 
  have O__law_numbers : Ok l.prog w K mg base 1 "_law_numbers" ["script"] (sp__law_numbers K) := ⟨_, _, Q__law_numbers, m__law_numbers, F__law_numbers.kp, b__law_numbers⟩
  have Q__law_draw := ok__law_draw (P := l.prog) (w := w) (base := base) F__law_draw T 
  have O__law_draw : Ok l.prog w K mg base 1 "_law_draw" ["row", "at", "limit"] (sp__law_draw) := ⟨_, _, Q__law_draw, m__law_draw, F__law_draw.kp, b__law_draw⟩
  have Q__law_take := ok__law_take (P := l.prog) (w := w) (base := base) F__law_take T O__law_draw
  have O__law_take : Ok l.prog w K mg base 2 "_law_take" ["row", "spot", "limit"] (sp__law_take) := ⟨_, _, Q__law_take, m__law_take, F__law_take.kp, b__law_take⟩
  have Q__law_wide := ok__law_wide (P := l.prog) (w := w) (base := base) F__law_wide T O__law_take
  have O__law_wide : Ok l.prog w K mg base 3 "_law_wide" ["row", "spot", "limit"] (sp__law_wide) := ⟨_, _, Q__law_wide, m__law_wide, F__law_wide.kp, b__law_wide⟩
  have Q__law_of := ok__law_of (P := l.prog) (w := w) (base := base) F__law_of T 
  have O__law_of : Ok l.prog w K mg base 1 "_law_of" ["value"] (sp__law_of [C_BadValue, C_BadCut, C_BadBound, C_BadSyntax, C_BadLine, C_NoItem, C_TakenKey, C_OutOfRange, C_NoPage, C_TooMany, C_BadPages, C_Crashed, C_NoStore, C_TakenDisk, C_Closed]) := ⟨_, _, Q__law_of, m__law_of, F__law_of.kp, b__law_of⟩
  have Q__law_foreign := ok__law_foreign (P := l.prog) (w := w) (base := base) F__law_foreign T 
  have O__law_foreign : Ok l.prog w K mg base 1 "_law_foreign" ["value"] (sp__law_foreign [C_BadValue, C_BadCut, C_BadBound, C_BadSyntax, C_BadLine, C_NoItem, C_TakenKey, C_OutOfRange, C_NoPage, C_TooMany, C_BadPages, C_Crashed, C_NoStore, C_TakenDisk, C_Closed]) := ⟨_, _, Q__law_foreign, m__law_foreign, F__law_foreign.kp, b__law_foreign⟩
  have Q__law_caught := ok__law_caught (P := l.prog) (w := w) (base := base) F__law_caught T 
  have O__law_caught : OkX l.prog w K mg base 3 "_law_caught" ["at"] (sp__law_caught) := ⟨_, _, Q__law_caught, m__law_caught, F__law_caught.kp, b__law_caught⟩
  exact ok_law F_law T O__law_caught O__law_foreign O__law_numbers O__law_of O__law_so O__law_take O__law_wide
theorem walk {l : PySem.W.OpenLaw} {q : Program} {loose : List Str} {XP : (Str → Option Value) → Heap → Prop} {YP : World → Heap → Prop} {d : DefRec} {K : Params → PySem.W.Frag} (hn : l.most = some 63) (hdf : d.params.defaults = [])
    (hY : ∀ (w : World) (h : Heap), YP w h → (K w.params).In h)
    (F : ∀ (w : World) (mg : Str → Option Value) (fa : Addr) (h : Heap), (K w.params).In h → h.Ns mainGlobals mg → mg d.name = some (.ref fa) →
      ∃ fd : FuncData, (∀ (s : Shared) (u : Value), BindsTo s fd ⟨[u], []⟩ [("script", u)]) ∧ ∀ base : Heap, (K w.params).In base → base.Ns mainGlobals mg → FnOk l.prog w (K w.params) mg base CX0 5 fa fd ["script"] (sp_law (K w.params))) :
    PySem.W.WalkO q loose XP YP l.row.toRowW d [] (fun f vs => PySem.call f vs) :=
  L2.walk_of (n := 63) (k := 5) (x := "script") (CX := fun _ => CX0) (sp := fun w => sp_law (K w.params)) hn (by decide) hdf ⟨rfl, by decide, by decide⟩ hY F (fun _ _ a ns hl hO hS => ⟨a, ns, rfl, hS, hl, fun _ => rfl⟩) fun _ _ _ _ _ z => z
end Bx
open PySem PySem.W PyProof.Rows
set_option maxRecDepth 100000 in
set_option maxHeartbeats 0 in
theorem PySem.Challenge.cw_boundstead_k00_errors_holds : PySem.Challenge.rw_boundstead_k00_errors.Holds := by
  w_on; o_law; k_head; (case hw => w_witness2)
  k_fill
  refine Bx.walk (l := PySem.Challenge.rw_boundstead_k00_errors) rfl rfl (fun w h Y => PySem.W.kIn_of Y) ?F
  case F =>
    intro w mg fa h KX G hmg
    refine' Bx.all_mk KX G hmg ?a__law_so ?l__law_so ?c__law_so ?k__law_so ?a__law_numbers ?l__law_numbers ?c__law_numbers ?k__law_numbers ?a__law_draw ?l__law_draw ?c__law_draw ?k__law_draw ?a__law_take ?l__law_take ?c__law_take ?k__law_take ?a__law_wide ?l__law_wide ?c__law_wide ?k__law_wide ?a__law_of ?l__law_of ?c__law_of ?k__law_of ?a__law_foreign ?l__law_foreign ?c__law_foreign ?k__law_foreign ?a__law_caught ?l__law_caught ?c__law_caught ?k__law_caught ?a_law ?l_law ?c_law ?k_law ?na_BadPages ?nq_BadPages ?nk_BadPages ?nb_BadPages ?ny_BadPages ?na_Closed ?nq_Closed ?nk_Closed ?nb_Closed ?ny_Closed ?na_Crashed ?nq_Crashed ?nk_Crashed ?nb_Crashed ?ny_Crashed ?na_NoStore ?nq_NoStore ?nk_NoStore ?nb_NoStore ?ny_NoStore ?na_SpatialError ?nq_SpatialError ?nk_SpatialError ?nb_SpatialError ?ny_SpatialError ?na_TakenDisk ?nq_TakenDisk ?nk_TakenDisk ?nb_TakenDisk ?ny_TakenDisk ?ea_BadBound ?ex_BadBound ?es_BadBound ?eg_BadBound ?eh_BadBound ?en_BadBound ?ei_BadBound ?et_BadBound ?el_BadBound ?ec_BadBound ?ek_BadBound ?eb_BadBound ?ey_BadBound ?ed_BadBound ?ez_BadBound ?ew_BadBound ?ea_BadCut ?ex_BadCut ?es_BadCut ?eg_BadCut ?eh_BadCut ?en_BadCut ?ei_BadCut ?et_BadCut ?el_BadCut ?ec_BadCut ?ek_BadCut ?eb_BadCut ?ey_BadCut ?ed_BadCut ?ez_BadCut ?ew_BadCut ?ea_BadLine ?ex_BadLine ?es_BadLine ?eg_BadLine ?eh_BadLine ?en_BadLine ?ei_BadLine ?et_BadLine ?el_BadLine ?ec_BadLine ?ek_BadLine ?eb_BadLine ?ey_BadLine ?ed_BadLine ?ez_BadLine ?ew_BadLine ?ea_BadSyntax ?ex_BadSyntax ?es_BadSyntax ?eg_BadSyntax ?eh_BadSyntax ?en_BadSyntax ?ei_BadSyntax ?et_BadSyntax ?el_BadSyntax ?ec_BadSyntax ?ek_BadSyntax ?eb_BadSyntax ?ey_BadSyntax ?ed_BadSyntax ?ez_BadSyntax ?ew_BadSyntax ?ea_BadValue ?ex_BadValue ?es_BadValue ?eg_BadValue ?eh_BadValue ?en_BadValue ?ei_BadValue ?et_BadValue ?el_BadValue ?ec_BadValue ?ek_BadValue ?eb_BadValue ?ey_BadValue ?ed_BadValue ?ez_BadValue ?ew_BadValue ?ea_NoItem ?ex_NoItem ?es_NoItem ?eg_NoItem ?eh_NoItem ?en_NoItem ?ei_NoItem ?et_NoItem ?el_NoItem ?ec_NoItem ?ek_NoItem ?eb_NoItem ?ey_NoItem ?ed_NoItem ?ez_NoItem ?ew_NoItem ?ea_NoPage ?ex_NoPage ?es_NoPage ?eg_NoPage ?eh_NoPage ?en_NoPage ?ei_NoPage ?et_NoPage ?el_NoPage ?ec_NoPage ?ek_NoPage ?eb_NoPage ?ey_NoPage ?ed_NoPage ?ez_NoPage ?ew_NoPage ?ea_OutOfRange ?ex_OutOfRange ?es_OutOfRange ?eg_OutOfRange ?eh_OutOfRange ?en_OutOfRange ?ei_OutOfRange ?et_OutOfRange ?el_OutOfRange ?ec_OutOfRange ?ek_OutOfRange ?eb_OutOfRange ?ey_OutOfRange ?ed_OutOfRange ?ez_OutOfRange ?ew_OutOfRange ?ea_TakenKey ?ex_TakenKey ?es_TakenKey ?eg_TakenKey ?eh_TakenKey ?en_TakenKey ?ei_TakenKey ?et_TakenKey ?el_TakenKey ?ec_TakenKey ?ek_TakenKey ?eb_TakenKey ?ey_TakenKey ?ed_TakenKey ?ez_TakenKey ?ew_TakenKey ?ea_TooMany ?ex_TooMany ?es_TooMany ?eg_TooMany ?eh_TooMany ?en_TooMany ?ei_TooMany ?et_TooMany ?el_TooMany ?ec_TooMany ?ek_TooMany ?eb_TooMany ?ey_TooMany ?ed_TooMany ?ez_TooMany ?ew_TooMany ?xm_BadPages_SpatialError ?xc_BadPages_SpatialError ?xm_BadValue_SpatialError ?xc_BadValue_SpatialError ?xm_Crashed_SpatialError ?xc_Crashed_SpatialError ?z_ArithmeticError ?z_Exception ?z_LookupError ?z_ValueError ?z_bool ?z_int ?z_isinstance ?z_len ?z_range ?z_str ?z_tuple ?tb_q ?tb_n ?tb_t
    (case a__law_so => k_is); (case l__law_so => k_is); (case c__law_so => k_is); (case k__law_so => k_is); (case a__law_numbers => k_is); (case l__law_numbers => k_is)
    (case c__law_numbers => k_is); (case k__law_numbers => k_is); (case a__law_draw => k_is); (case l__law_draw => k_is); (case c__law_draw => k_is); (case k__law_draw => k_is)
    (case a__law_take => k_is); (case l__law_take => k_is); (case c__law_take => k_is); (case k__law_take => k_is); (case a__law_wide => k_is); (case l__law_wide => k_is)
    (case c__law_wide => k_is); (case k__law_wide => k_is); (case a__law_of => k_is); (case l__law_of => k_is); (case c__law_of => k_is); (case k__law_of => k_is)
    (case a__law_foreign => k_is); (case l__law_foreign => k_is); (case c__law_foreign => k_is); (case k__law_foreign => k_is); (case a__law_caught => k_is); (case l__law_caught => k_is)
    (case c__law_caught => k_is); (case k__law_caught => k_is); (case a_law => k_is); (case l_law => k_is); (case c_law => k_is); (case k_law => k_is)
    (case na_BadPages => k_is); (case nq_BadPages => first | k_exc | (unfold Bx.exB; k_exc)); (case nk_BadPages => k_is); (case nb_BadPages => k_is); (case ny_BadPages => k_is); (case na_Closed => k_is)
    (case nq_Closed => first | k_exc | (unfold Bx.exB; k_exc)); (case nk_Closed => k_is); (case nb_Closed => k_is); (case ny_Closed => k_is); (case na_Crashed => k_is); (case nq_Crashed => first | k_exc | (unfold Bx.exB; k_exc))
    (case nk_Crashed => k_is); (case nb_Crashed => k_is); (case ny_Crashed => k_is); (case na_NoStore => k_is); (case nq_NoStore => first | k_exc | (unfold Bx.exB; k_exc)); (case nk_NoStore => k_is)
    (case nb_NoStore => k_is); (case ny_NoStore => k_is); (case na_SpatialError => k_is); (case nq_SpatialError => first | k_exc | (unfold Bx.exB; k_exc)); (case nk_SpatialError => k_is); (case nb_SpatialError => k_is)
    (case ny_SpatialError => k_is); (case na_TakenDisk => k_is); (case nq_TakenDisk => first | k_exc | (unfold Bx.exB; k_exc)); (case nk_TakenDisk => k_is); (case nb_TakenDisk => k_is); (case ny_TakenDisk => k_is)
    (case ea_BadBound => k_is); (case ex_BadBound => k_is); (case es_BadBound => k_is); (case eg_BadBound => k_is); (case eh_BadBound => k_is); (case en_BadBound => k_is)
    (case ei_BadBound => k_is); (case et_BadBound => k_is); (case el_BadBound => k_is); (case ec_BadBound => k_is); (case ek_BadBound => k_is); (case eb_BadBound => k_is)
    (case ey_BadBound => k_is); (case ed_BadBound => k_is); (case ez_BadBound => k_is); (case ew_BadBound => first | rfl | k_is); (case ea_BadCut => k_is); (case ex_BadCut => k_is)
    (case es_BadCut => k_is); (case eg_BadCut => k_is); (case eh_BadCut => k_is); (case en_BadCut => k_is); (case ei_BadCut => k_is); (case et_BadCut => k_is)
    (case el_BadCut => k_is); (case ec_BadCut => k_is); (case ek_BadCut => k_is); (case eb_BadCut => k_is); (case ey_BadCut => k_is); (case ed_BadCut => k_is)
    (case ez_BadCut => k_is); (case ew_BadCut => first | rfl | k_is); (case ea_BadLine => k_is); (case ex_BadLine => k_is); (case es_BadLine => k_is); (case eg_BadLine => k_is)
    (case eh_BadLine => k_is); (case en_BadLine => k_is); (case ei_BadLine => k_is); (case et_BadLine => k_is); (case el_BadLine => k_is); (case ec_BadLine => k_is)
    (case ek_BadLine => k_is); (case eb_BadLine => k_is); (case ey_BadLine => k_is); (case ed_BadLine => k_is); (case ez_BadLine => k_is); (case ew_BadLine => first | rfl | k_is)
    (case ea_BadSyntax => k_is); (case ex_BadSyntax => k_is); (case es_BadSyntax => k_is); (case eg_BadSyntax => k_is); (case eh_BadSyntax => k_is); (case en_BadSyntax => k_is)
    (case ei_BadSyntax => k_is); (case et_BadSyntax => k_is); (case el_BadSyntax => k_is); (case ec_BadSyntax => k_is); (case ek_BadSyntax => k_is); (case eb_BadSyntax => k_is)
    (case ey_BadSyntax => k_is); (case ed_BadSyntax => k_is); (case ez_BadSyntax => k_is); (case ew_BadSyntax => first | rfl | k_is); (case ea_BadValue => k_is); (case ex_BadValue => k_is)
    (case es_BadValue => k_is); (case eg_BadValue => k_is); (case eh_BadValue => k_is); (case en_BadValue => k_is); (case ei_BadValue => k_is); (case et_BadValue => k_is)
    (case el_BadValue => k_is); (case ec_BadValue => k_is); (case ek_BadValue => k_is); (case eb_BadValue => k_is); (case ey_BadValue => k_is); (case ed_BadValue => k_is)
    (case ez_BadValue => k_is); (case ew_BadValue => first | rfl | k_is); (case ea_NoItem => k_is); (case ex_NoItem => k_is); (case es_NoItem => k_is); (case eg_NoItem => k_is)
    (case eh_NoItem => k_is); (case en_NoItem => k_is); (case ei_NoItem => k_is); (case et_NoItem => k_is); (case el_NoItem => k_is); (case ec_NoItem => k_is)
    (case ek_NoItem => k_is); (case eb_NoItem => k_is); (case ey_NoItem => k_is); (case ed_NoItem => k_is); (case ez_NoItem => k_is); (case ew_NoItem => first | rfl | k_is)
    (case ea_NoPage => k_is); (case ex_NoPage => k_is); (case es_NoPage => k_is); (case eg_NoPage => k_is); (case eh_NoPage => k_is); (case en_NoPage => k_is)
    (case ei_NoPage => k_is); (case et_NoPage => k_is); (case el_NoPage => k_is); (case ec_NoPage => k_is); (case ek_NoPage => k_is); (case eb_NoPage => k_is)
    (case ey_NoPage => k_is); (case ed_NoPage => k_is); (case ez_NoPage => k_is); (case ew_NoPage => first | rfl | k_is); (case ea_OutOfRange => k_is); (case ex_OutOfRange => k_is)
    (case es_OutOfRange => k_is); (case eg_OutOfRange => k_is); (case eh_OutOfRange => k_is); (case en_OutOfRange => k_is); (case ei_OutOfRange => k_is); (case et_OutOfRange => k_is)
    (case el_OutOfRange => k_is); (case ec_OutOfRange => k_is); (case ek_OutOfRange => k_is); (case eb_OutOfRange => k_is); (case ey_OutOfRange => k_is); (case ed_OutOfRange => k_is)
    (case ez_OutOfRange => k_is); (case ew_OutOfRange => first | rfl | k_is); (case ea_TakenKey => k_is); (case ex_TakenKey => k_is); (case es_TakenKey => k_is); (case eg_TakenKey => k_is)
    (case eh_TakenKey => k_is); (case en_TakenKey => k_is); (case ei_TakenKey => k_is); (case et_TakenKey => k_is); (case el_TakenKey => k_is); (case ec_TakenKey => k_is)
    (case ek_TakenKey => k_is); (case eb_TakenKey => k_is); (case ey_TakenKey => k_is); (case ed_TakenKey => k_is); (case ez_TakenKey => k_is); (case ew_TakenKey => first | rfl | k_is)
    (case ea_TooMany => k_is); (case ex_TooMany => k_is); (case es_TooMany => k_is); (case eg_TooMany => k_is); (case eh_TooMany => k_is); (case en_TooMany => k_is)
    (case ei_TooMany => k_is); (case et_TooMany => k_is); (case el_TooMany => k_is); (case ec_TooMany => k_is); (case ek_TooMany => k_is); (case eb_TooMany => k_is)
    (case ey_TooMany => k_is); (case ed_TooMany => k_is); (case ez_TooMany => k_is); (case ew_TooMany => first | rfl | k_is); (case xm_BadPages_SpatialError => first | k_is | rfl); (case xc_BadPages_SpatialError => first | k_is | rfl)
    (case xm_BadValue_SpatialError => first | k_is | rfl); (case xc_BadValue_SpatialError => first | k_is | rfl); (case xm_Crashed_SpatialError => first | k_is | rfl); (case xc_Crashed_SpatialError => first | k_is | rfl); (case z_ArithmeticError => k_is); (case z_Exception => k_is)
    (case z_LookupError => k_is); (case z_ValueError => k_is); (case z_bool => k_is); (case z_int => k_is); (case z_isinstance => k_is); (case z_len => k_is)
    (case z_range => k_is); (case z_str => k_is); (case z_tuple => k_is); (case tb_q => kernel_rfl); (case tb_n => k_is); (case tb_t => k_is)
