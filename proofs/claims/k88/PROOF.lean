import PyProof.Rows.All
import Wide.All
import OpenK.AllK
import Wide.FinOn
import HandS.ForMost
import HandS.ForExc
import HandS.IsInst
import HandS.TupAny
import HandS.TupMul
import HandS.Zip
import HandS.Star
import HandS.Flt
import HandS.Defaults
import HandS.Gcd
import HandS.Wide
import PySem.Challenge.RW_boundstead_k88_fractions
set_option Elab.async false
set_option linter.all false
set_option maxRecDepth 100000
namespace Bx
open PySem L2
section
variable {X : Cx}
/-! ### joined rules -/
def rAddX (K : PySem.W.Frag) : R2 := fun x y H Q => (∃ i j, x = .int i ∧ y = .int j ∧ Q (.int (i + j)) H) ∨ rCat x y H Q ∨ rCatA K x y H Q
theorem op_addX : OpR X (binaryOp .Add) (rAddX X.K) := op_add.or (op_cat.or op_catA)
def rMulX (K : PySem.W.Frag) : R2 := fun x y H Q => (∃ i j, x = .int i ∧ y = .int j ∧ IntMulOk i j ∧ Q (.int (i * j)) H) ∨ rRepT K x y H Q
theorem op_mulA : OpR X (binaryOp .Mult) (rI IntMulOk fun i j => .int (i * j)) := opI fun _ _ _ _ _ _ _ hc q => PyProof.Rows.mul_int q hc
theorem op_mulX : OpR X (binaryOp .Mult) (rMulX X.K) := op_mulA.or op_repT
def rEqX (K : PySem.W.Frag) : R2 := fun x y H Q => rEq x y H Q ∨ rEqD K x y H Q
theorem op_eqX (hu : X.A.units + 64 < cLine) : OpR X (compareOp .Eq) (rEqX X.K) := op_eq.or (op_eqD hu)
def rNeX (K : PySem.W.Frag) : R2 := fun x y H Q => rNe x y H Q ∨ rNeD K x y H Q
theorem op_neX (hu : X.A.units + 64 < cLine) : OpR X (compareOp .NotEq) (rNeX X.K) := op_ne.or (op_neD hu)
def rIxX (K : PySem.W.Frag) : R2 := fun x y H Q => rIxL K x y H Q ∨ rIxT K x y H Q
theorem ix_X : IxR X (rIxX X.K) := ix_list.or ix_tup
def rSlX (K : PySem.W.Frag) : V → Option Int → Option Int → Hp → VK → Prop := fun x lo hi H Q => rSlL K x lo hi H Q ∨ rSlA K x lo hi H Q
theorem sl_X : SlR X (rSlX X.K) := sl_list.or sl_tupA
def gX (K : PySem.W.Frag) (n : Nat) (t : TGs) : TG := fun v σ H Q => gTup K n t v σ H Q ∨ gLst K n t v σ H Q
theorem pg_X {es : List Expr} {k : Nat} {t : TGs} {n : Nat} {pos : Pos} (hc : X.calm = true) (h : PGs X es t)
    (hn : (assignEach es X.env).length = n := by rfl) (hst : (assignEach es X.env).findIdx? (·.1) = none := by rfl) : PG X (.Tuple es k pos) (gX X.K n t) :=
  ⟨fun pins s σ H v u Q I r q => q.elim (fun q => (pg_tup hc h hn hst).run pins s σ H v u Q I r q) fun q => (pg_lst hc h hn hst).run pins s σ H v u Q I r q⟩
/-- a list or a tuple walked -/
def iX (K : PySem.W.Frag) (tl : TE) : TI := fun σ H R => tl σ H fun x H1 => ∃ a, x = .ref a ∧ (((∃ xs, SqL K H1 a xs) ∧ R (Itl K a) H1) ∨ ((∃ xs, SqT K H1 a xs) ∧ R (Itt K a) H1))
theorem pi_X {tg l : Expr} {tl : TE} (hl : PE X l tl) : PI X tg l (iX X.K tl) := by
  refine ⟨fun pins s σ H R I h => ?_⟩
  refine thn (hl.run pins s σ H _ I h) fun v s1 ⟨x, H1, I1, r1, q1⟩ => ?_
  obtain ⟨a, e, q⟩ := q1
  subst e
  cases r1
  rcases q with ⟨⟨xs, hq⟩, q⟩ | ⟨⟨xs, hq⟩, q⟩
  · obtain ⟨its, rv, p, hz⟩ := I1.list hq
    refine wpAny_pyIter_list p.isList ?_
    refine ⟨s1.heap.objs.size, [s1.heap.objs.size], _, _, H1, rfl, I1.kept (t' := s1.toks) fun b o e => Heap.get?_push_of_some _ e, turn_list a _, ⟨_, Heap.get?_push_size _ rfl, rfl, rfl⟩, fun b hb => ?_, q⟩
    have e : b = s1.heap.objs.size := by simpa using hb
    subst e
    exact I1.fpOk (Nat.le_refl _) (I1.hok.fresh (Nat.le_refl _))
  · obtain ⟨its, rv, p, hz⟩ := I1.tuple hq
    refine wpAny_pyIter_tuple (show s1.heap.IsTuple a its.toArray from p) ?_
    refine ⟨s1.heap.objs.size, [s1.heap.objs.size], _, _, H1, rfl, I1.kept (t' := s1.toks) fun b o e => Heap.get?_push_of_some _ e, turn_tuple a _, ⟨_, Heap.get?_push_size _ rfl, rfl, rfl⟩, fun b hb => ?_, q⟩
    have e : b = s1.heap.objs.size := by simpa using hb
    subst e
    exact I1.fpOk (Nat.le_refl _) (I1.hok.fresh (Nat.le_refl _))
end
/-! ### named rules -/
section
variable {X : Cx}
def rSub : R2 := fun x y H Q => ∃ i j, x = .int i ∧ y = .int j ∧ Q (.int (i - j)) H
theorem o_sub : OpR X (binaryOp .Sub) rSub := op_sub
def CDivA (_ j : Int) : Prop := j ≠ 0 ∧ j.natAbs.log2 < 9000
def rFdv : R2 := fun x y H Q => ∃ i j, x = .int i ∧ y = .int j ∧ CDivA i j ∧ Q (.int (i.fdiv j)) H
theorem o_fdiv : OpR X (binaryOp .FloorDiv) rFdv := opI (C := CDivA) (g := fun i j => i.fdiv j) fun i j _ _ _ _ _ hc q => PyProof.Rows.floordiv_int hc.1 q (.inl (PyProof.noPylong_of_log2 hc.2))
def rModI : R2 := fun x y H Q => ∃ i j, x = .int i ∧ y = .int j ∧ 0 < j ∧ Q (.int (i % j)) H
theorem o_mod : OpR X (binaryOp .Mod) rModI := op_mod
def rPow : R2 := fun x y H Q => ∃ i j, x = .int i ∧ y = .int j ∧ CPow i j ∧ Q (.int (i ^ j.toNat)) H
theorem o_pow : OpR X (binaryOp .Pow) rPow := op_pow
def rLt : R2 := fun x y H Q => ∃ i j, x = .int i ∧ y = .int j ∧ Q (.bl (decide (i < j))) H
theorem o_lt : OpR X (compareOp .Lt) rLt := op_lt
def rLe : R2 := fun x y H Q => ∃ i j, x = .int i ∧ y = .int j ∧ Q (.bl (decide (i ≤ j))) H
theorem o_le : OpR X (compareOp .LtE) rLe := op_le
def rGt : R2 := fun x y H Q => ∃ i j, x = .int i ∧ y = .int j ∧ Q (.bl (decide (j < i))) H
theorem o_gt : OpR X (compareOp .Gt) rGt := op_gt
def rGe : R2 := fun x y H Q => ∃ i j, x = .int i ∧ y = .int j ∧ Q (.bl (decide (j ≤ i))) H
theorem o_ge : OpR X (compareOp .GtE) rGe := op_ge
def rNeg : V → Hp → VK → Prop := fun x H Q => ∃ i, x = .int i ∧ Q (.int (-i)) H
theorem u_neg : UnR X (unaryOp .USub) rNeg := un_neg
def rIsNon : R2 := fun x y H Q => y = .non ∧ Q (.bl (decide (x = .non))) H
theorem o_isN : OpR X (compareOp .Is) rIsNon := op_isN
def rNotNon : R2 := fun x y H Q => y = .non ∧ Q (.bl (!decide (x = .non))) H
theorem o_notN : OpR X (compareOp .IsNot) rNotNon := op_notN
def rLen (K : PySem.W.Frag) : List V → Hp → VK → Prop := fun xs H Q => ∃ p ys, xs = [.ref p] ∧ (SqL K H p ys ∨ SqT K H p ys) ∧ Q (.int ys.length) H
theorem c_len : CallR X (.builtin "len") (rLen X.K) := call_len_seq
def rAbs : List V → Hp → VK → Prop := fun xs H Q => ∃ i, xs = [.int i] ∧ Q (.int (if i < 0 then -i else i)) H
theorem c_abs : CallR X (.builtin "abs") rAbs := call_abs
def rIntO : List V → Hp → VK → Prop := fun xs H Q => (∃ i, xs = [.int i] ∧ Q (.int i) H) ∨ ∃ k, xs = [.bl k] ∧ Q (.int (if k then 1 else 0)) H
theorem c_int : CallR X (.type "int") rIntO := call_int1
def rTupOf (K : PySem.W.Frag) : List V → Hp → VK → Prop := fun xs H Q => ∃ p ys, xs = [.ref p] ∧ ((SqL K H p ys ∧ ∀ l, H l = none → Q (.ref l) (upd H l (.tup ys))) ∨ (SqT K H p ys ∧ Q (.ref p) H))
theorem c_tuple : CallR X (.type "tuple") (rTupOf X.K) := call_tuple_of
def rMx2 : List V → Hp → VK → Prop := fun xs H Q => ∃ i j, xs = [.int i, .int j] ∧ Q (.int (if j > i then j else i)) H
theorem c_max2 (hc : X.calm = true) : CallR X (.builtin "max") rMx2 := call_max2 hc
def rMn2 : List V → Hp → VK → Prop := fun xs H Q => ∃ i j, xs = [.int i, .int j] ∧ Q (.int (if j < i then j else i)) H
theorem c_min2 (hc : X.calm = true) : CallR X (.builtin "min") rMn2 := call_min2 hc
def rMx3 : List V → Hp → VK → Prop := rNuC3 nuMax3
theorem c_max3 (hc : X.calm = true) : CallR X (.builtin "max") rMx3 := call_max3Nu hc
end
/-- ways joined behind a statement -/
def tCut (t u : TS) : TS := fun D σ H => ∃ Mid : L2.St → Hp → Prop, t { D with nx := Mid } σ H ∧ ∀ σ' H', Mid σ' H' → u D σ' H'
theorem pss_cut {X : Cx} {st : Stmt} {rest : List Stmt} {t u : TS} (h1 : PS X st t) (h2 : PSs X rest u) : PSs X (st :: rest) (tCut t u) := by
  refine ⟨fun pins s σ H D I h => ?_⟩
  obtain ⟨Mid, hm, hu⟩ := h
  refine wpAny_execs_cons (thn (h1.run pins s σ H { D with nx := Mid } I hm) fun f s1 q => ?_)
  cases f with
  | next =>
    obtain ⟨σ', H', I', q⟩ := q
    exact h2.run pins s1 σ' H' D I' (hu σ' H' q)
  | ret v => exact q
  | brk => exact q
  | cont => exact q
/-! ### defs as a bundle, their calls -/
structure Ok (P : Program) (w : World) (K : PySem.W.Frag) (mg : Str → Option Value) (base : Heap) (k : Nat) (x : Str) (ps : List Str) (sp : Sp) : Prop where
  ex : ∃ f fd, FnOk P w K mg base CX0 k f fd ps sp ∧ mg x = some (.ref f) ∧ PySem.W.keepIn K (.ref f) = true ∧ Binds K fd ps []
theorem Ok.imp {P : Program} {w : World} {K : PySem.W.Frag} {mg : Str → Option Value} {base : Heap} {k : Nat} {x : Str} {ps : List Str} {sp sp' : Sp} (O : Ok P w K mg base k x ps sp) (h : ∀ vs H Q E, sp' vs H Q E → sp vs H Q E) : Ok P w K mg base k x ps sp' := by
  obtain ⟨f, fd, F, a, b, c⟩ := O.ex
  exact ⟨f, fd, F.imp h, a, b, c⟩
def tCallO (sp : Sp) (t : TA) : TE := fun σ H Q => t σ H fun vs H1 => sp vs H1 Q E0
theorem pe_cO {X : Cx} {k : Nat} {x : Str} {ps : List Str} {sp : Sp} {e : Expr} {es : List Expr} {t : TA} {p pos : Pos} (O : Ok X.prog X.w X.K X.mg X.base k x ps sp) (hr : Room k X.A) (hg : Gl X x) (ha : PA X (e :: es) t)
    (hdb : (x == ("__debug__" : Str)) = false := by decide) (he : starEach (e :: es) X.env = (false, eval e X.env) :: starEach es X.env := by rfl) (hpl : (backTo pos (starEach es X.env)).any (·.1) = false := by rfl) :
    PE X (.Call (.Name x p) (e :: es) [] pos) (tCallO sp t) := by
  obtain ⟨f, fd, F, hm, hk, hb⟩ := O.ex
  refine ⟨fun pins s σ H Q I h => (pe_call (E := E0) F hr hg hm hk hb .nil pass0 ha hdb he hpl).run pins s σ H Q I ?_⟩
  have e1 : (fun (vs : List V) H1 => sp (vs ++ []) H1 Q E0) = fun vs H1 => sp vs H1 Q E0 := by
    funext vs H1
    rw [List.append_nil]
  show t σ H fun vs H1 => sp (vs ++ []) H1 Q E0
  rw [e1]
  exact h
/-- with keywords: n places, then the names ks; idx says where each further parameter's value stands among them -/
structure OkK (P : Program) (w : World) (K : PySem.W.Frag) (mg : Str → Option Value) (base : Heap) (k : Nat) (x : Str) (ps : List Str) (sp : Sp) (n : Nat) (ks : List Str) (idx : List Nat) : Prop where
  ex : ∃ f fd, FnOk P w K mg base CX0 k f fd ps sp ∧ mg x = some (.ref f) ∧ PySem.W.keepIn K (.ref f) = true ∧
    ∀ us ws : List Value, us.length = n → ws.length = ks.length → bindArgs fd ⟨us, ks.zip ws⟩ = pure (ps.zip (us ++ idx.map fun i => ws.getD i .none))
theorem vals_getD : ∀ {zs : List V} {ws : List Value} (_ : Vals zs ws) (i : Nat), RelV (zs.getD i .non) (ws.getD i .none)
  | _, _, .nil, i => by
    show Value.none = Value.none
    rfl
  | _, _, .cons r rs, 0 => r
  | _, _, .cons r rs, i + 1 => vals_getD rs i
theorem vals_idx {zs : List V} {ws : List Value} (h : Vals zs ws) : ∀ idx : List Nat, Vals (idx.map fun i => zs.getD i .non) (idx.map fun i => ws.getD i .none)
  | [] => .nil
  | i :: l => .cons (vals_getD h i) (vals_idx h l)
theorem OkK.kbn {P : Program} {w : World} {K : PySem.W.Frag} {mg : Str → Option Value} {base : Heap} {k n : Nat} {x : Str} {ps ks : List Str} {sp : Sp} {idx : List Nat} (O : OkK P w K mg base k x ps sp n ks idx) :
    ∃ f fd, FnOk P w K mg base CX0 k f fd ps sp ∧ mg x = some (.ref f) ∧ PySem.W.keepIn K (.ref f) = true ∧ KBn K fd ps n ks (fun us ws => us ++ idx.map fun i => ws.getD i .none) (fun vs zs => vs ++ idx.map fun i => zs.getD i .non) := by
  obtain ⟨f, fd, F, a, b, c⟩ := O.ex
  exact ⟨f, fd, F, a, b, fun s us ws _ h1 h2 => .of_eq (c us ws h1 h2), fun r1 r2 => r1.append (vals_idx r2 idx)⟩
def tCallOK (n m : Nat) (sp : Sp) (idx : List Nat) (t tk : TA) : TE := fun σ H Q => t σ H fun vs H1 => tk σ H1 fun zs H2 => vs.length = n ∧ zs.length = m ∧ sp (vs ++ idx.map fun i => zs.getD i .non) H2 Q E0
section
variable {X : Cx} {k n : Nat} {x : Str} {ps ks : List Str} {sp : Sp} {idx : List Nat} {e : Expr} {es : List Expr} {kws : List Keyword} {t tk : TA} {p pos : Pos}
theorem pe_cK {m : Nat} (O : OkK X.prog X.w X.K X.mg X.base k x ps sp n ks idx) (hr : Room k X.A) (hg : Gl X x) (ha : PA X (e :: es) t) (hkw : PK X kws tk)
    (hall : (backToKw pos (keywordEach kws X.env)).all (·.1.isSome) = true := by rfl) (hks : (backToKw pos (keywordEach kws X.env)).filterMap (·.1) = ks := by rfl)
    (hdb : (x == ("__debug__" : Str)) = false := by decide) (hm : ks.length = m := by rfl) (he : starEach (e :: es) X.env = (false, eval e X.env) :: starEach es X.env := by rfl)
    (hpl : ((backTo pos (starEach (e :: es) X.env)).any (·.1) || (backToKw pos (keywordEach kws X.env)).any (·.1.isNone)) = false := by rfl) :
    PE X (.Call (.Name x p) (e :: es) kws pos) (tCallOK n m sp idx t tk) := by
  subst hm
  obtain ⟨f, fd, F, hmg, hk, hb⟩ := O.kbn
  exact pe_callN F hr hg hmg hk hb pass0 ha hkw hall hks hdb he hpl
theorem pe_cK0 {m : Nat} (O : OkK X.prog X.w X.K X.mg X.base k x ps sp 0 ks idx) (hr : Room k X.A) (hg : Gl X x) (hkw : PK X kws tk)
    (hall : (backToKw pos (keywordEach kws X.env)).all (·.1.isSome) = true := by rfl) (hks : (backToKw pos (keywordEach kws X.env)).filterMap (·.1) = ks := by rfl)
    (hdb : (x == ("__debug__" : Str)) = false := by decide) (hm : ks.length = m := by rfl) (hpl : ((backTo pos (starEach [] X.env)).any (·.1) || (backToKw pos (keywordEach kws X.env)).any (·.1.isNone)) = false := by rfl) :
    PE X (.Call (.Name x p) [] kws pos) (tCallOK 0 m sp idx tNil tk) := by
  subst hm
  obtain ⟨f, fd, F, hmg, hk, hb⟩ := O.kbn
  refine ⟨fun pins s σ H Q I h => ?_⟩
  refine wpAny_Call_Name_kw (ld_glob I hg hmg ?_ hdb)
  refine PySem.W.callWith_KW0 (h₀ := X.base) I.ok.mod.kin hk hall ?_ hpl
  refine thn (hkw.run pos pins s σ H _ I h) fun ws s2 ⟨zs, H2, I2, rz, l1, l2, q2⟩ => ⟨I2.kIn, ?_⟩
  rw [hks]
  exact run_fnN (us := []) F hr hb pass0 I2 .nil rz l1 l2 q2
end
/-! ### defs that may raise -/
structure OkX (P : Program) (w : World) (K : PySem.W.Frag) (mg : Str → Option Value) (base : Heap) (k : Nat) (x : Str) (ps : List Str) (sp : Sp) : Prop where
  ex : ∃ f fd, FnOk P w K mg base (L2.CX P w) k f fd ps sp ∧ mg x = some (.ref f) ∧ PySem.W.keepIn K (.ref f) = true ∧ Binds K fd ps []
structure OkXK (P : Program) (w : World) (K : PySem.W.Frag) (mg : Str → Option Value) (base : Heap) (k : Nat) (x : Str) (ps : List Str) (sp : Sp) (n : Nat) (ks : List Str) (idx : List Nat) : Prop where
  ex : ∃ f fd, FnOk P w K mg base (L2.CX P w) k f fd ps sp ∧ mg x = some (.ref f) ∧ PySem.W.keepIn K (.ref f) = true ∧
    ∀ us ws : List Value, us.length = n → ws.length = ks.length → bindArgs fd ⟨us, ks.zip ws⟩ = pure (ps.zip (us ++ idx.map fun i => ws.getD i .none))
theorem OkXK.kbn {P : Program} {w : World} {K : PySem.W.Frag} {mg : Str → Option Value} {base : Heap} {k n : Nat} {x : Str} {ps ks : List Str} {sp : Sp} {idx : List Nat} (O : OkXK P w K mg base k x ps sp n ks idx) :
    ∃ f fd, FnOk P w K mg base (L2.CX P w) k f fd ps sp ∧ mg x = some (.ref f) ∧ PySem.W.keepIn K (.ref f) = true ∧ KBn K fd ps n ks (fun us ws => us ++ idx.map fun i => ws.getD i .none) (fun vs zs => vs ++ idx.map fun i => zs.getD i .non) := by
  obtain ⟨f, fd, F, a, b, c⟩ := O.ex
  exact ⟨f, fd, F, a, b, fun s us ws _ h1 h2 => .of_eq (c us ws h1 h2), fun r1 r2 => r1.append (vals_idx r2 idx)⟩
section
variable {X : Cx} {k n : Nat} {x : Str} {ps ks : List Str} {sp : Sp} {idx : List Nat} {e : Expr} {es : List Expr} {kws : List Keyword} {t tk : TA} {p pos : Pos} {W : WX}
/-- called where nothing is raised -/
theorem pe_cX (O : OkX X.prog X.w X.K X.mg X.base k x ps sp) (hr : Room k X.A) (hg : Gl X x) (ha : PA X (e :: es) t)
    (hdb : (x == ("__debug__" : Str)) = false := by decide) (he : starEach (e :: es) X.env = (false, eval e X.env) :: starEach es X.env := by rfl) (hpl : (backTo pos (starEach es X.env)).any (·.1) = false := by rfl) :
    PE X (.Call (.Name x p) (e :: es) [] pos) (tCallO sp t) := by
  obtain ⟨f, fd, F, hm, hk, hb⟩ := O.ex
  refine ⟨fun pins s σ H Q I h => (pe_call (E := E0) F hr hg hm hk hb .nil passL ha hdb he hpl).run pins s σ H Q I ?_⟩
  have e1 : (fun (vs : List V) H1 => sp (vs ++ []) H1 Q E0) = fun vs H1 => sp vs H1 Q E0 := by
    funext vs H1
    rw [List.append_nil]
  show t σ H fun vs H1 => sp (vs ++ []) H1 Q E0
  rw [e1]
  exact h
/-- called in a try's body (or where what is raised goes on): W, the wish -/
theorem pe_cXS (O : OkX X.prog X.w X.K X.mg X.base k x ps sp) (hr : Room k X.A) (hg : Gl X x) (tkk : Takes X W) (ha : PA X (e :: es) t)
    (hdb : (x == ("__debug__" : Str)) = false := by decide) (he : starEach (e :: es) X.env = (false, eval e X.env) :: starEach es X.env := by rfl) (hpl : (backTo pos (starEach es X.env)).any (·.1) = false := by rfl) :
    PE X (.Call (.Name x p) (e :: es) [] pos) (tCallS sp (WE W) t) := by
  obtain ⟨f, fd, F, hm, hk, hb⟩ := O.ex
  exact pe_callS F hr hg hm hk hb (fun σ => passAt tkk σ) ha hdb he hpl
def tCallSK (n m : Nat) (sp : Sp) (idx : List Nat) (E : L2.St → XK) (t tk : TA) : TE := fun σ H Q => t σ H fun vs H1 => tk σ H1 fun zs H2 => vs.length = n ∧ zs.length = m ∧ sp (vs ++ idx.map fun i => zs.getD i .non) H2 Q (E σ)
theorem run_fnSK {pins : List (Addr × Obj)} {σ : L2.St} {H : Hp} {s : Shared} {Q : VK} {us ws : List Value} {vs zs : List V} {f : Addr} {fd : FuncData} {g : List Value → List Value → List Value} {gV : List V → List V → List V} (F : FnOk X.prog X.w X.K X.mg X.base (L2.CX X.prog X.w) k f fd ps sp) (hr : Room k X.A) (hb : KBn X.K fd ps n ks g gV) (tkk : Takes X W)
    (I : Inv X pins σ H s) (r : Vals vs us) (rz : Vals zs ws) (l1 : vs.length = n) (l2 : zs.length = ks.length) (h : sp (gV vs zs) H Q (WE W σ)) : wpAny (model X.prog X.w) X.A (call (.ref f) us (ks.zip ws)) (EP X pins σ Q) X.xe s := by
  have r2 := hb.rel r rz
  refine wpAny_call (codeAny_mono (F.run X.A X.stack s H ⟨us, ks.zip ws⟩ (g us ws) (gV vs zs) Q (WE W σ) hr I.env0 (hb.to s us ws I.kIn (r.length.symm.trans l1) (rz.length.symm.trans l2)) r2 h) fun r s' hq => ?_)
  cases r with
  | error e => exact passAt tkk σ pins H s e s' I hq
  | ok fl =>
    cases fl with
    | ret u => exact I.after hq
    | next => exact False.elim hq
    | brk => exact False.elim hq
    | cont => exact False.elim hq
theorem pe_cXSK0 {m : Nat} (O : OkXK X.prog X.w X.K X.mg X.base k x ps sp 0 ks idx) (hr : Room k X.A) (hg : Gl X x) (tkk : Takes X W) (hkw : PK X kws tk)
    (hall : (backToKw pos (keywordEach kws X.env)).all (·.1.isSome) = true := by rfl) (hks : (backToKw pos (keywordEach kws X.env)).filterMap (·.1) = ks := by rfl)
    (hdb : (x == ("__debug__" : Str)) = false := by decide) (hm : ks.length = m := by rfl) (hpl : ((backTo pos (starEach [] X.env)).any (·.1) || (backToKw pos (keywordEach kws X.env)).any (·.1.isNone)) = false := by rfl) :
    PE X (.Call (.Name x p) [] kws pos) (tCallSK 0 m sp idx (WE W) tNil tk) := by
  subst hm
  obtain ⟨f, fd, F, hmg, hk, hb⟩ := O.kbn
  refine ⟨fun pins s σ H Q I h => ?_⟩
  refine wpAny_Call_Name_kw (ld_glob I hg hmg ?_ hdb)
  refine PySem.W.callWith_KW0 (h₀ := X.base) I.ok.mod.kin hk hall ?_ hpl
  refine thn (hkw.run pos pins s σ H _ I h) fun ws s2 ⟨zs, H2, I2, rz, l1, l2, q2⟩ => ⟨I2.kIn, ?_⟩
  rw [hks]
  exact run_fnSK (us := []) F hr hb tkk I2 .nil rz l1 l2 q2
/-- try: body / except C as n: suite -/
def tTry (K : PySem.W.Frag) (C : Addr) (i : Nat) (tb : WX → TS) (ts : Addr → Value → Option Addr → TS) (Wo : WX) : TS := fun D σ H => tb (wAs K (.ref C) i ts Wo D) D σ H
end
end Bx
namespace Bx
open PySem L2
def isB (x : V) (H : Hp) (Q : Bool → Hp → Prop) : Prop := ∃ k, x = .bl k ∧ Q k H
section
variable {σ σ' : L2.St} {H : Hp} {Q : VK} {QB : Bool → Hp → Prop} {QA : List V → Hp → Prop} {QO : Option Int → Hp → Prop} {v w : V} {ta tb tc te : TE} {t u : TT} {tr : TA} {tl th : TO} {K : PySem.W.Frag} {n b c : L2.St → Hp → Prop} {r : VK} {k : Bool} {i j : Int} {A B : Prop} {p a : Addr} {xs ys : List V} {ts tu : TS}
theorem x_var {i : Nat} (h : σ[i]? = some (some v)) (q : Q v H) : tVar i σ H Q := ⟨v, h, q⟩
theorem x_c (q : Q v H) : tC v σ H Q := q
theorem x_op {f : R2} (q : ta σ H fun x H1 => tb σ H1 fun y H2 => f x y H2 Q) : tOp f ta tb σ H Q := q
theorem x_un {f : V → Hp → VK → Prop} (q : ta σ H fun x H1 => f x H1 Q) : tUn f ta σ H Q := q
theorem x_sub (q : Q (.int (i - j)) H) : rSub (.int i) (.int j) H Q := ⟨i, j, rfl, rfl, q⟩
theorem x_fdvA (h0 : j ≠ 0) {m : Nat} (hb : j.natAbs < 2 ^ m) (hm : m ≤ 9000) (q : Q (.int (i.fdiv j)) H) : rFdv (.int i) (.int j) H Q := ⟨i, j, rfl, rfl, ⟨h0, by
  have z := (Nat.log2_lt (n := j.natAbs) (k := m) (by omega)).mpr hb
  omega⟩, q⟩
theorem x_fdv (h : 0 < j ∧ j < 1073741824) (q : Q (.int (i / j)) H) : rFdv (.int i) (.int j) H Q := x_fdvA (m := 30) (by omega) (by show j.natAbs < 1073741824; omega) (by decide) (by rw [Int.fdiv_eq_ediv_of_nonneg i (by omega)]; exact q)
theorem x_mod (h : 0 < j) (q : Q (.int (i % j)) H) : rModI (.int i) (.int j) H Q := ⟨i, j, rfl, rfl, h, q⟩
theorem x_pow (h : 0 ≤ j ∧ j ≤ 1000000 ∧ i.natAbs < 2 ^ 64) (q : Q (.int (i ^ j.toNat)) H) : rPow (.int i) (.int j) H Q := ⟨i, j, rfl, rfl, h, q⟩
theorem x_lt (q : Q (.bl (decide (i < j))) H) : rLt (.int i) (.int j) H Q := ⟨i, j, rfl, rfl, q⟩
theorem x_le (q : Q (.bl (decide (i ≤ j))) H) : rLe (.int i) (.int j) H Q := ⟨i, j, rfl, rfl, q⟩
theorem x_gt (q : Q (.bl (decide (j < i))) H) : rGt (.int i) (.int j) H Q := ⟨i, j, rfl, rfl, q⟩
theorem x_ge (q : Q (.bl (decide (j ≤ i))) H) : rGe (.int i) (.int j) H Q := ⟨i, j, rfl, rfl, q⟩
theorem x_neg (q : Q (.int (-i)) H) : rNeg (.int i) H Q := ⟨i, rfl, q⟩
theorem x_isN (q : Q (.bl (decide (v = .non))) H) : rIsNon v .non H Q := ⟨rfl, q⟩
theorem x_notN (q : Q (.bl (!decide (v = .non))) H) : rNotNon v .non H Q := ⟨rfl, q⟩
theorem x_abs (q : Q (.int (if i < 0 then -i else i)) H) : rAbs [.int i] H Q := ⟨i, rfl, q⟩
theorem x_int1 (q : Q (.int i) H) : rIntO [.int i] H Q := .inl ⟨i, rfl, q⟩
theorem x_max2 (q : Q (.int (if j > i then j else i)) H) : rMx2 [.int i, .int j] H Q := ⟨i, j, rfl, q⟩
theorem x_min2 (q : Q (.int (if j < i then j else i)) H) : rMn2 [.int i, .int j] H Q := ⟨i, j, rfl, q⟩
theorem x_tupL (h : SqL K H p xs) (q : ∀ l, H l = none → Q (.ref l) (upd H l (.tup xs))) : rTupOf K [.ref p] H Q := ⟨p, xs, rfl, .inl ⟨h, q⟩⟩
theorem x_tupT (h : SqT K H p xs) (q : Q (.ref p) H) : rTupOf K [.ref p] H Q := ⟨p, xs, rfl, .inr ⟨h, q⟩⟩
theorem x_addI (q : Q (.int (i + j)) H) : rAddX K (.int i) (.int j) H Q := .inl ⟨i, j, rfl, rfl, q⟩
theorem x_mulI (h : CMul i j) (q : Q (.int (i * j)) H) : rMulX K (.int i) (.int j) H Q := .inl ⟨i, j, rfl, rfl, h.ok, q⟩
theorem x_addL {b : Addr} (h1 : H p = some (.lst xs)) (h2 : H b = some (.lst ys)) (h : xs.length + ys.length ≤ sizeLine) (q : ∀ a, H a = none → Q (.ref a) (upd H a (.lst (xs ++ ys)))) : rAddX K (.ref p) (.ref b) H Q := .inr (.inl ⟨p, b, xs, ys, rfl, rfl, h1, h2, h, q⟩)
theorem x_addT {b : Addr} (h1 : H p = some (.tup xs)) (h2 : H b = some (.tup ys)) (h : xs.length + ys.length ≤ sizeLine) (q0 : xs = [] → Q (.ref b) H) (q1 : xs ≠ [] → ys = [] → Q (.ref p) H) (q : ∀ a, H a = none → Q (.ref a) (upd H a (.tup (xs ++ ys)))) : rAddX K (.ref p) (.ref b) H Q :=
  .inr (.inr ⟨p, b, xs, ys, rfl, rfl, SqT.of h1, SqT.of h2, h, q0, q1, fun _ _ => q⟩)
theorem x_repT (h1 : H p = some (.tup xs)) (h0 : xs ≠ []) (h2 : 2 ≤ j) (h3 : j ≤ 1000) (h4 : xs.length ≤ 1000) (q : ∀ a, H a = none → Q (.ref a) (upd H a (.tup (List.replicate j.toNat xs).flatten))) : rMulX K (.ref p) (.int j) H Q :=
  .inr ⟨p, j, xs, rfl, rfl, SqT.of h1, h0, h2, h3, h4, q⟩
theorem x_eqI (q : Q (.bl (decide (i = j))) H) : rEqX K (.int i) (.int j) H Q := .inl ⟨rfl, by
  have e : decide (V.int i = V.int j) = decide (i = j) := by by_cases z : i = j <;> simp [z]
  rw [e]; exact q⟩
theorem x_neI (q : Q (.bl (!decide (i = j))) H) : rNeX K (.int i) (.int j) H Q := .inl ⟨rfl, by
  have e : decide (V.int i = V.int j) = decide (i = j) := by by_cases z : i = j <;> simp [z]
  rw [e]; exact q⟩
theorem x_eqV (h : scal v w = true) (q : Q (.bl (decide (v = w))) H) : rEqX K v w H Q := .inl ⟨h, q⟩
theorem x_ixL (h : H p = some (.lst xs)) (e : atI xs i = some v) (q : Q v H) : rIxX K (.ref p) (.int i) H Q := .inl ⟨p, xs, i, v, rfl, rfl, SqL.of h, e, q⟩
theorem x_ixT (h : H p = some (.tup xs)) (e : atI xs i = some v) (q : Q v H) : rIxX K (.ref p) (.int i) H Q := .inr ⟨p, xs, i, v, rfl, rfl, SqT.of h, e, q⟩
theorem x_sl {f : V → Option Int → Option Int → Hp → VK → Prop} (q : te σ H fun x H1 => tl σ H1 fun l H2 => th σ H2 fun u H3 => f x l u H3 Q) : tSl f te tl th σ H Q := q
theorem x_no (q : QO none H) : tNoPart σ H QO := q
theorem x_part (q : te σ H fun x H1 => ∃ i, x = .int i ∧ QO (some i) H1) : tPart te σ H QO := q
theorem x_slL {lo hi : Option Int} (h : SqL K H p xs) (q : ∀ a, H a = none → Q (.ref a) (upd H a (.lst (cutV xs lo hi)))) : rSlX K (.ref p) lo hi H Q := .inl ⟨p, xs, rfl, h, q⟩
theorem x_slT {lo hi : Option Int} (h : H p = some (.tup xs)) (q1 : HT.sIx xs.length 0 lo = 0 ∧ HT.sIx xs.length xs.length hi = xs.length → Q (.ref p) H) (q : ¬ (HT.sIx xs.length 0 lo = 0 ∧ HT.sIx xs.length xs.length hi = xs.length) → ∀ a, H a = none → Q (.ref a) (upd H a (.tup (cutV xs lo hi)))) : rSlX K (.ref p) lo hi H Q := .inr ⟨p, xs, rfl, SqT.of h, q1, q⟩
theorem x_test (q : te σ H fun x H1 => isB x H1 QB) : tTest te σ H QB := q
theorem x_tB (q : te σ H fun x H1 => isB x H1 QB) : tB te σ H QB := q
theorem x_isB (q : QB k H) : isB (.bl k) H QB := ⟨k, rfl, q⟩
theorem x_and (q : t σ H fun c H1 => if c = true then u σ H1 QB else QB false H1) : tAnd t u σ H QB := q
theorem x_or (q : t σ H fun c H1 => if c = true then QB true H1 else u σ H1 QB) : tOr t u σ H QB := q
theorem x_not (q : t σ H fun c H1 => QB (!c) H1) : tNot t σ H QB := q
theorem x_andV (q : ta σ H fun x H1 => isB x H1 fun c H2 => if c = true then tb σ H2 Q else Q (.bl false) H2) : tAndV ta tb σ H Q := q
theorem x_orV (q : ta σ H fun x H1 => isB x H1 fun c H2 => if c = true then Q (.bl true) H2 else tb σ H2 Q) : tOrV ta tb σ H Q := q
theorem x_notV (q : ta σ H fun x H1 => isB x H1 fun c H2 => Q (.bl (!c)) H2) : tNotV ta σ H Q := q
theorem x_chain {f g : R2} (q : ta σ H fun x H1 => tb σ H1 fun y H2 => f x y H2 fun z H3 => isB z H3 fun k H4 => if k = true then tc σ H4 fun w H5 => g y w H5 Q else Q (.bl false) H4) : tChain f g ta tb tc σ H Q := q
theorem x_ifE (q : t σ H fun c H1 => if c = true then ta σ H1 Q else tb σ H1 Q) : tIf t ta tb σ H Q := q
theorem x_iteT (h : A) : if true = true then A else B := by rw [if_pos rfl]; exact h
theorem x_iteF (h : B) : if false = true then A else B := by rw [if_neg Bool.false_ne_true]; exact h
theorem x_iteNT (h : B) : if (!true) = true then A else B := x_iteF h
theorem x_iteNF (h : A) : if (!false) = true then A else B := x_iteT h
theorem x_ite (h1 : k = true → A) (h2 : k = false → B) : if k = true then A else B := by
  cases k with
  | true => exact x_iteT (h1 rfl)
  | false => exact x_iteF (h2 rfl)
theorem x_dec {C : Prop} [Decidable C] (h1 : C → A) (h2 : ¬ C → B) : if decide C = true then A else B :=
  x_ite (fun e => h1 (of_decide_eq_true e)) (fun e => h2 (of_decide_eq_false e))
theorem x_ndec {C : Prop} [Decidable C] (h1 : ¬ C → A) (h2 : C → B) : if (!decide C) = true then A else B := by
  by_cases e : C
  · rw [decide_eq_true e]; exact x_iteNT (h2 e)
  · rw [decide_eq_false e]; exact x_iteNF (h1 e)
theorem x_nil (q : QA [] H) : tNil σ H QA := q
theorem x_cons (q : te σ H fun x H1 => tr σ H1 fun xs H2 => QA (x :: xs) H2) : tCons te tr σ H QA := q
def mkT (xs : List V) (H : Hp) (Q : VK) : Prop := xs.length ≤ sizeLine ∧ ∀ p, H p = none → Q (.ref p) (upd H p (.tup xs))
def mkL (xs : List V) (H : Hp) (Q : VK) : Prop := xs.length ≤ sizeLine ∧ ∀ p, H p = none → Q (.ref p) (upd H p (.lst xs))
theorem x_tup (q : tr σ H fun xs H1 => mkT xs H1 Q) : tTup tr σ H Q := q
theorem x_lst (q : tr σ H fun xs H1 => mkL xs H1 Q) : tLst tr σ H Q := q
theorem x_cb {f : List V → Hp → VK → Prop} (q : tr σ H fun vs H1 => f vs H1 Q) : tCB f tr σ H Q := q
theorem x_call {sp : Sp} (q : tr σ H fun vs H1 => sp vs H1 Q E0) : tCallO sp tr σ H Q := q
theorem x_callK {sp : Sp} {m n : Nat} {idx : List Nat} {tk : TA} (q : tr σ H fun vs H1 => tk σ H1 fun zs H2 => vs.length = n ∧ zs.length = m ∧ sp (vs ++ idx.map fun i => zs.getD i .non) H2 Q E0) : tCallOK n m sp idx tr tk σ H Q := q
theorem x_callS {sp : Sp} {E : L2.St → XK} (q : tr σ H fun vs H1 => sp vs H1 Q (E σ)) : tCallS sp E tr σ H Q := q
theorem x_callSK {sp : Sp} {m n : Nat} {idx : List Nat} {tk : TA} {E : L2.St → XK} (q : tr σ H fun vs H1 => tk σ H1 fun zs H2 => vs.length = n ∧ zs.length = m ∧ sp (vs ++ idx.map fun i => zs.getD i .non) H2 Q (E σ)) : tCallSK n m sp idx E tr tk σ H Q := q
theorem x_bm {T : String} {f : V → List V → Hp → VK → Prop} (q : te σ H fun x H1 => tyV K T x H1 ∧ tr σ H1 fun xs H2 => f x xs H2 Q) : tBM K T f te tr σ H Q := q
/-! statements -/
theorem x_seq (q : ts ⟨tu ⟨n, r, b, c⟩, r, b, c⟩ σ H) : tSeq ts tu ⟨n, r, b, c⟩ σ H := q
theorem x_cut (Mid : L2.St → Hp → Prop) (h : ts ⟨Mid, r, b, c⟩ σ H) (k : ∀ σ' H', Mid σ' H' → tu ⟨n, r, b, c⟩ σ' H') : tCut ts tu ⟨n, r, b, c⟩ σ H := ⟨Mid, h, k⟩
theorem x_next (q : n σ H) : tNext ⟨n, r, b, c⟩ σ H := q
theorem x_brk (q : b σ H) : tBreak ⟨n, r, b, c⟩ σ H := q
theorem x_cont (q : c σ H) : tCont ⟨n, r, b, c⟩ σ H := q
theorem x_drop (q : te σ H fun _ H1 => n σ H1) : tDrop te ⟨n, r, b, c⟩ σ H := q
theorem x_ret (q : te σ H r) : tRet te ⟨n, r, b, c⟩ σ H := q
theorem x_ifS (q : t σ H fun k H1 => if k = true then ts ⟨n, r, b, c⟩ σ H1 else tu ⟨n, r, b, c⟩ σ H1) : tIfS t ts tu ⟨n, r, b, c⟩ σ H := q
theorem x_asg {g : TG} (q : te σ H fun x H1 => g x σ H1 n) : tAsg te g ⟨n, r, b, c⟩ σ H := q
theorem x_gName {i : Nat} (q : n (σ.set i (some v)) H) : gName i v σ H n := q
theorem x_gSub {s : TSet} (q : ta σ H fun o H1 => tb σ H1 fun i H2 => s o i v H2 fun H3 => n σ H3) : gSub ta tb s v σ H n := q
theorem x_setL {m : Nat} {Qh : Hp → Prop} (h : H p = some (.lst xs)) (e : ixN xs.length i = some m) (q : Qh (upd H p (.lst (xs.set m v)))) : rSetL (.ref p) (.int i) v H Qh := ⟨p, xs, i, m, rfl, rfl, h, e, q⟩
theorem x_app (h : H p = some (.lst xs)) (hl : xs.length < sizeLine) (q : Q .non (upd H p (.lst (xs ++ [v])))) : rAppend (.ref p) [v] H Q := ⟨p, xs, v, rfl, rfl, h, hl, q⟩
theorem x_len {f : V → Hp → VK → Prop} : True := trivial
theorem x_gX {m : Nat} {g : TGs} (h : H p = some (.tup xs) ∨ H p = some (.lst xs)) (e : xs.length = m) (q : g xs σ H n) : gX K m g (.ref p) σ H n := h.elim (fun h => .inl ⟨p, xs, rfl, SqT.of h, e, q⟩) fun h => .inr ⟨p, xs, rfl, SqL.of h, e, q⟩
theorem x_gCons {g : TG} {gs : TGs} (q : g v σ H fun σ' H' => gs xs σ' H' n) : gCons g gs (v :: xs) σ H n := ⟨v, xs, rfl, q⟩
theorem x_gNil (q : n σ H) : gNil [] σ H n := ⟨rfl, q⟩
/-! loops -/
def rawR (m : Nat) (g : TG) (ts : TS) (D : Ends) (σ : L2.St) (H : Hp) : Prop := ∃ W : Nat → Nat → L2.St → Hp → Prop, (∃ m, W 0 m σ H) ∧ ∀ i k σ H, W i k σ H →
  ((Itr 0 m).stop i H ∧ D.nx σ H) ∨ ((Itr 0 m).go i H ∧ ∃ N : L2.St → Hp → Prop, (∀ σ' H', N σ' H' → ∃ m', m' < k ∧ W (i + 1) m' σ' H') ∧ ∀ x H', (Itr 0 m).yld i H x H' → g x σ H' fun σ2 H2 => ts { D with nx := N, ct := N, bk := D.nx } σ2 H2)
def rngK (vs : List V) (P : Nat → Prop) : Prop := ∃ j : Int, vs = [.int j] ∧ -(2 ^ 62) ≤ j ∧ j < 2 ^ 62 ∧ P j.toNat
theorem x_rng {z : Int} {P : Nat → Prop} (m : Nat) (hm : m ≤ 1000000000) (hz : z = (m : Int)) (q : P m) : rngK [.int z] P := by
  subst hz
  exact ⟨(m : Int), rfl, by omega, by omega, by rw [Int.toNat_natCast]; exact q⟩
theorem x_forR {g : TG} (q : tr σ H fun vs H1 => rngK vs fun m => rawR m g ts ⟨n, r, b, c⟩ σ H1) : tFor (iRng1 tr) g ts ⟨n, r, b, c⟩ σ H := q
theorem x_loopR {g : TG} {m : Nat} (Pv : Nat → L2.St → Hp → Prop) (h0 : Pv 0 σ H) (hs : ∀ i σ H, i < m → Pv i σ H → g (.int (i : Int)) σ H fun σ2 H2 => ts ⟨Pv (i + 1), r, n, Pv (i + 1)⟩ σ2 H2) (hd : ∀ σ H, Pv m σ H → n σ H) : rawR m g ts ⟨n, r, b, c⟩ σ H := by
  refine for_range (lo := 0) (n := m) (D := ⟨n, r, b, c⟩) Pv h0 (fun i σ H hi hp => ?_) hd
  rw [Int.zero_add]
  exact hs i σ H hi hp
def rawJ (J : It) (g : TG) (ts : TS) (D : Ends) (σ : L2.St) (H : Hp) : Prop := ∃ W : Nat → Nat → L2.St → Hp → Prop, (∃ m, W 0 m σ H) ∧ ∀ i k σ H, W i k σ H →
  (J.stop i H ∧ D.nx σ H) ∨ (J.go i H ∧ ∃ N : L2.St → Hp → Prop, (∀ σ' H', N σ' H' → ∃ m', m' < k ∧ W (i + 1) m' σ' H') ∧ ∀ x H', J.yld i H x H' → g x σ H' fun σ2 H2 => ts { D with nx := N, ct := N, bk := D.nx } σ2 H2)
theorem x_forX {g : TG} (q : te σ H fun x H1 => ∃ a, x = .ref a ∧ (((∃ xs, SqL K H1 a xs) ∧ rawJ (Itl K a) g ts ⟨n, r, b, c⟩ σ H1) ∨ ((∃ xs, SqT K H1 a xs) ∧ rawJ (Itt K a) g ts ⟨n, r, b, c⟩ σ H1))) : tFor (iX K te) g ts ⟨n, r, b, c⟩ σ H := q
theorem x_loopL {g : TG} (h : SqL K H a xs) (Pv : Nat → L2.St → Hp → Prop) (h0 : Pv 0 σ H) (hl : ∀ i σ H, i ≤ xs.length → Pv i σ H → SqL K H a xs) (hs : ∀ i x σ H, xs[i]? = some x → Pv i σ H → g x σ H fun σ2 H2 => ts ⟨Pv (i + 1), r, n, Pv (i + 1)⟩ σ2 H2) (hd : ∀ σ H, Pv xs.length σ H → n σ H) :
    ∃ a', V.ref a = .ref a' ∧ (((∃ xs, SqL K H a' xs) ∧ rawJ (Itl K a') g ts ⟨n, r, b, c⟩ σ H) ∨ ((∃ xs, SqT K H a' xs) ∧ rawJ (Itt K a') g ts ⟨n, r, b, c⟩ σ H)) :=
  ⟨a, rfl, .inl ⟨⟨xs, h⟩, for_list (D := ⟨n, r, b, c⟩) Pv h0 hl hs hd⟩⟩
theorem x_loopT {g : TG} (h : SqT K H a xs) (Pv : Nat → L2.St → Hp → Prop) (h0 : Pv 0 σ H) (hl : ∀ i σ H, i ≤ xs.length → Pv i σ H → SqT K H a xs) (hs : ∀ i x σ H, xs[i]? = some x → Pv i σ H → g x σ H fun σ2 H2 => ts ⟨Pv (i + 1), r, n, Pv (i + 1)⟩ σ2 H2) (hd : ∀ σ H, Pv xs.length σ H → n σ H) :
    ∃ a', V.ref a = .ref a' ∧ (((∃ xs, SqL K H a' xs) ∧ rawJ (Itl K a') g ts ⟨n, r, b, c⟩ σ H) ∨ ((∃ xs, SqT K H a' xs) ∧ rawJ (Itt K a') g ts ⟨n, r, b, c⟩ σ H)) :=
  ⟨a, rfl, .inr ⟨⟨xs, h⟩, for_tup (D := ⟨n, r, b, c⟩) Pv h0 hl hs hd⟩⟩
/-! comprehensions -/
def rawC (J : It) (g : TG) (tt : TT) (te : TE) (vs : List Nat) (σ : L2.St) (H1 : Hp) (Q : VK) : Prop := ∀ D, H1 D = none → ∃ W : Nat → Nat → Hp → Prop, (∃ m, W 0 m (upd H1 D (.lst []))) ∧ ∀ i m H, W i m H →
  (J.stop i H ∧ Q (.ref D) H) ∨ (J.go i H ∧ ∃ Nx : Hp → Prop, (∀ H', Nx H' → ∃ m', m' < m ∧ W (i + 1) m' H') ∧ ∀ x H', J.yld i H x H' → g x (wipe σ vs) H' fun σ2 H2 => wipe σ2 vs = wipe σ vs ∧ tt σ2 H2 fun b H3 =>
    if b = true then te σ2 H3 fun y H4 => ∃ acc, H4 D = some (.lst acc) ∧ acc.length < sizeLine ∧ Nx (upd H4 D (.lst (acc ++ [y]))) else Nx H3)
theorem x_lcX {g : TG} {tt : TT} {tx : TE} {vs : List Nat} (q : te σ H fun x H1 => ∃ a, x = .ref a ∧ (((∃ xs, SqL K H1 a xs) ∧ rawC (Itl K a) g tt tx vs σ H1 Q) ∨ ((∃ xs, SqT K H1 a xs) ∧ rawC (Itt K a) g tt tx vs σ H1 Q))) : tLc (iX K te) g tt tx vs σ H Q := q
theorem x_lcR {g : TG} {tt : TT} {tx : TE} {vs : List Nat} (q : tr σ H fun us H1 => rngK us fun m => rawC (Itr 0 m) g tt tx vs σ H1 Q) : tLc (iRng1 tr) g tt tx vs σ H Q := q
theorem x_lcL {g : TG} {tt : TT} {tx : TE} {vs : List Nat} (h : SqL K H a xs) (Pv : Addr → Nat → Hp → Prop) (h0 : ∀ D, H D = none → Pv D 0 (upd H D (.lst []))) (hl : ∀ D i H, i ≤ xs.length → Pv D i H → SqL K H a xs)
    (hs : ∀ D i x H, xs[i]? = some x → Pv D i H → g x (wipe σ vs) H fun σ2 H2 => wipe σ2 vs = wipe σ vs ∧ tt σ2 H2 fun b H3 =>
      if b = true then tx σ2 H3 fun y H4 => ∃ acc, H4 D = some (.lst acc) ∧ acc.length < sizeLine ∧ Pv D (i + 1) (upd H4 D (.lst (acc ++ [y]))) else Pv D (i + 1) H3) (hd : ∀ D H, Pv D xs.length H → Q (.ref D) H) :
    ∃ a', V.ref a = .ref a' ∧ (((∃ xs, SqL K H a' xs) ∧ rawC (Itl K a') g tt tx vs σ H Q) ∨ ((∃ xs, SqT K H a' xs) ∧ rawC (Itt K a') g tt tx vs σ H Q)) :=
  ⟨a, rfl, .inl ⟨⟨xs, h⟩, fun D hD => lc_list (Pv D) (h0 D hD) (hl D) (hs D) (hd D)⟩⟩
theorem x_lcT {g : TG} {tt : TT} {tx : TE} {vs : List Nat} (h : SqT K H a xs) (Pv : Addr → Nat → Hp → Prop) (h0 : ∀ D, H D = none → Pv D 0 (upd H D (.lst []))) (hl : ∀ D i H, i ≤ xs.length → Pv D i H → SqT K H a xs)
    (hs : ∀ D i x H, xs[i]? = some x → Pv D i H → g x (wipe σ vs) H fun σ2 H2 => wipe σ2 vs = wipe σ vs ∧ tt σ2 H2 fun b H3 =>
      if b = true then tx σ2 H3 fun y H4 => ∃ acc, H4 D = some (.lst acc) ∧ acc.length < sizeLine ∧ Pv D (i + 1) (upd H4 D (.lst (acc ++ [y]))) else Pv D (i + 1) H3) (hd : ∀ D H, Pv D xs.length H → Q (.ref D) H) :
    ∃ a', V.ref a = .ref a' ∧ (((∃ xs, SqL K H a' xs) ∧ rawC (Itl K a') g tt tx vs σ H Q) ∨ ((∃ xs, SqT K H a' xs) ∧ rawC (Itt K a') g tt tx vs σ H Q)) :=
  ⟨a, rfl, .inr ⟨⟨xs, h⟩, fun D hD => lc_tup (Pv D) (h0 D hD) (hl D) (hs D) (hd D)⟩⟩
theorem x_lcN {g : TG} {tt : TT} {tx : TE} {vs : List Nat} {m : Nat} (Pv : Addr → Nat → Hp → Prop) (h0 : ∀ D, H D = none → Pv D 0 (upd H D (.lst [])))
    (hs : ∀ D i H, i < m → Pv D i H → g (.int (i : Int)) (wipe σ vs) H fun σ2 H2 => wipe σ2 vs = wipe σ vs ∧ tt σ2 H2 fun b H3 =>
      if b = true then tx σ2 H3 fun y H4 => ∃ acc, H4 D = some (.lst acc) ∧ acc.length < sizeLine ∧ Pv D (i + 1) (upd H4 D (.lst (acc ++ [y]))) else Pv D (i + 1) H3) (hd : ∀ D H, Pv D m H → Q (.ref D) H) : rawC (Itr 0 m) g tt tx vs σ H Q := fun D hD =>
  lc_range (Pv D) (h0 D hD) (fun i H hi hp => by
    rw [Int.zero_add]
    exact hs D i H hi hp) (hd D)
theorem x_tYes (q : QB true H) : tYes σ H QB := q
end
end Bx
namespace Bx
open PySem L2
/-! ### heaps: all but ex stays -/
def Kp (ex : List Addr) (H H' : Hp) : Prop := ∀ a o, a ∉ ex → H a = some o → H' a = some o
def Live (ex : List Addr) (H : Hp) : Prop := ∀ a, a ∈ ex → ∃ o, H a = some o
section
variable {ex ex' : List Addr} {sp p a row : Addr} {H H1 H2 H' : Hp} {o u : HO} {K : PySem.W.Frag} {xs : List V} {v : V}
theorem upd_get (h : H p = none) (e : H a = some o) : upd H p u a = some o := by
  rw [upd_ne (ne_of_none e h)]; exact e
theorem upd_get' (h : a ≠ p) (e : H a = some o) : upd H p u a = some o := by
  rw [upd_ne h]; exact e
theorem new_ne (h : H p = none) (e : H a = some o) : p ≠ a := fun z => by rw [z, e] at h; cases h
theorem Live.new (L : Live ex H) (h : H p = none) : p ∉ ex := fun z => by
  obtain ⟨o, e⟩ := L p z
  rw [h] at e; cases e
theorem Live.same (L : Live ex H) (s : Same H H1) : Live ex H1 := fun a h => by
  obtain ⟨o, e⟩ := L a h
  exact ⟨o, s _ _ e⟩
theorem Live.cons (L : Live ex H) (h : H p = some o) : Live (p :: ex) H := fun a z => by
  rcases List.mem_cons.mp z with rfl | z
  · exact ⟨o, h⟩
  · exact L a z
theorem Live.upd (L : Live ex H) : Live ex (upd H p o) := fun a h => by
  by_cases z : a = p
  · subst z; exact ⟨o, upd_same⟩
  · obtain ⟨u, e⟩ := L a h
    exact ⟨u, upd_get' z e⟩
theorem Live.nil : Live [] H := fun a h => nomatch h
theorem Live.one (h : H p = some o) : Live [p] H := Live.nil.cons h
theorem Kp.refl : Kp ex H H := fun _ _ _ h => h
theorem Kp.trans (x : Kp ex H H1) (y : Kp ex H1 H2) : Kp ex H H2 := fun a o n h => y a o n (x a o n h)
theorem Kp.new (x : Kp ex H H1) (h : H1 p = none) : Kp ex H (upd H1 p o) := fun a u n e => by
  rw [upd_ne (ne_of_none (x a u n e) h)]; exact x a u n e
theorem Kp.mut (x : Kp ex H H1) (h : p ∈ ex) : Kp ex H (upd H1 p o) := fun a u n e => by
  rw [upd_ne (fun z => n (by rw [z]; exact h))]; exact x a u n e
theorem Kp.mono (x : Kp ex H H1) (h : ∀ a, a ∈ ex → a ∈ ex') : Kp ex' H H1 := fun a u n e => x a u (fun z => n (h a z)) e
theorem Kp.more (x : Kp ex H H1) : Kp (p :: ex) H H1 := x.mono fun _ h => List.mem_cons_of_mem _ h
theorem Kp.same (x : Kp ex H H1) (y : Same H1 H2) : Kp ex H H2 := fun a o n h => y a o (x a o n h)
theorem Same.kp (y : Same H H1) : Kp ex H H1 := fun a o _ h => y a o h
theorem Same.new (x : Same H H1) (h : H1 p = none) : Same H (upd H1 p o) := fun a u e => by
  rw [upd_ne (ne_of_none (x a u e) h)]; exact x a u e
/-- an object that H does not know may change -/
theorem Kp.own (x : Kp ex H H1) (h : H p = none) : Kp ex H (upd H1 p o) := fun a u n e => by
  rw [upd_ne (ne_of_none e h)]; exact x a u n e
theorem Same.own (x : Same H H1) (h : H p = none) : Same H (upd H1 p o) := fun a u e => by
  rw [upd_ne (ne_of_none e h)]; exact x a u e
theorem Same.none (x : Same H H1) (h : H1 p = Option.none) : H p = Option.none := by
  cases q : H p with
  | none => rfl
  | some o => rw [x p o q] at h; cases h
theorem Kp.none (x : Kp ex H H1) (n : p ∉ ex) (h : H1 p = Option.none) : H p = Option.none := by
  cases q : H p with
  | none => rfl
  | some o => rw [x p o n q] at h; cases h
/-! ### the draws -/
structure Wd (H : Hp) (row sp : Addr) : Prop where
  ex : ∃ (s : Int) (rs : List Int), 0 ≤ s ∧ H sp = some (.lst [.int s]) ∧ H row = some (.lst (rs.map V.int)) ∧ rs ≠ [] ∧ rs.length ≤ 4000
  ne : row ≠ sp
theorem Wd.new (W : Wd H row sp) (h : H p = none) : Wd (upd H p o) row sp := by
  obtain ⟨⟨s, rs, a, b, c, d⟩, e⟩ := W
  exact ⟨⟨s, rs, a, upd_get h b, upd_get h c, d⟩, e⟩
theorem Wd.same (W : Wd H row sp) (h : Same H H1) : Wd H1 row sp := by
  obtain ⟨⟨s, rs, a, b, c, d⟩, e⟩ := W
  exact ⟨⟨s, rs, a, h _ _ b, h _ _ c, d⟩, e⟩
theorem Wd.live (W : Wd H row sp) : Live [sp] H := by
  obtain ⟨⟨s, rs, a, b, c, d⟩, e⟩ := W
  exact Live.one b
theorem Wd.sp_ne (W : Wd H row sp) (h : H p = none) : p ≠ sp := by
  obtain ⟨⟨s, rs, a, b, c, d⟩, e⟩ := W
  exact new_ne h b
/-- an own object that is neither -/
theorem Wd.own (W : Wd H row sp) (h : p ≠ sp) (h2 : p ≠ row) : Wd (upd H p o) row sp := by
  obtain ⟨⟨s, rs, a, b, c, d⟩, e⟩ := W
  exact ⟨⟨s, rs, a, upd_get' (Ne.symm h) b, upd_get' (Ne.symm h2) c, d⟩, e⟩
theorem Wd.row_ne (W : Wd H row sp) (h : H p = none) : p ≠ row := by
  obtain ⟨⟨s, rs, a, b, c, d⟩, e⟩ := W
  exact new_ne h c
theorem not1 (h : p ≠ sp) : p ∉ [sp] := fun z => h (List.mem_singleton.mp z)
end
/-! ### data -/
inductive Da where
  | non | bl (b : Bool) | int (i : Int) | str (s : Str) | tup (l : List Da) | lst (l : List Da)
inductive Rp (ex : List Addr) (H : Hp) : V → Da → Prop where
  | non : Rp ex H .non .non
  | bl (b : Bool) : Rp ex H (.bl b) (.bl b)
  | int (i : Int) : Rp ex H (.int i) (.int i)
  | str (s : Str) : Rp ex H (.str s) (.str s)
  | tup {a : Addr} {xs : List V} {ds : List Da} (n : a ∉ ex) (e : H a = some (.tup xs)) (l : xs.length = ds.length) (h : ∀ (i : Nat) (x : V) (d : Da), xs[i]? = some x → ds[i]? = some d → Rp ex H x d) : Rp ex H (.ref a) (.tup ds)
  | lst {a : Addr} {xs : List V} {ds : List Da} (n : a ∉ ex) (e : H a = some (.lst xs)) (l : xs.length = ds.length) (h : ∀ (i : Nat) (x : V) (d : Da), xs[i]? = some x → ds[i]? = some d → Rp ex H x d) : Rp ex H (.ref a) (.lst ds)
section
variable {ex ex' : List Addr} {sp p a row : Addr} {H H1 H2 H' : Hp} {o u : HO} {K : PySem.W.Frag} {xs : List V} {v : V} {d : Da} {ds : List Da}
theorem Rp.kp (h : Rp ex H v d) (k : Kp ex H H1) : Rp ex H1 v d := by
  induction h with
  | non => exact .non
  | bl b => exact .bl b
  | int i => exact .int i
  | str s => exact .str s
  | tup n e l _ ih => exact .tup n (k _ _ n e) l ih
  | lst n e l _ ih => exact .lst n (k _ _ n e) l ih
theorem Rp.same (h : Rp ex H v d) (k : Same H H1) : Rp ex H1 v d := h.kp (Same.kp k)
theorem Rp.less (h : Rp ex H v d) (k : ∀ a, a ∈ ex' → a ∈ ex) : Rp ex' H v d := by
  induction h with
  | non => exact .non
  | bl b => exact .bl b
  | int i => exact .int i
  | str s => exact .str s
  | tup n e l _ ih => exact .tup (fun z => n (k _ z)) e l ih
  | lst n e l _ ih => exact .lst (fun z => n (k _ z)) e l ih
theorem Rp.tail (h : Rp (p :: ex) H v d) : Rp ex H v d := h.less fun _ z => List.mem_cons_of_mem _ z
/-- what H holds is not at p, which it does not know -/
theorem Rp.grow (h : Rp ex H v d) (k : H p = none) : Rp (p :: ex) H v d := by
  induction h with
  | non => exact .non
  | bl b => exact .bl b
  | int i => exact .int i
  | str s => exact .str s
  | tup n e l _ ih => exact .tup (fun z => (List.mem_cons.mp z).elim (fun z => new_ne k e z.symm) n) e l ih
  | lst n e l _ ih => exact .lst (fun z => (List.mem_cons.mp z).elim (fun z => new_ne k e z.symm) n) e l ih
/-- many values -/
def Rps (ex : List Addr) (H : Hp) (xs : List V) (ds : List Da) : Prop := xs.length = ds.length ∧ ∀ (i : Nat) (x : V) (d : Da), xs[i]? = some x → ds[i]? = some d → Rp ex H x d
theorem Rps.nil : Rps ex H [] [] := ⟨rfl, fun i x d h => by simp at h⟩
theorem Rps.cons (h : Rp ex H v d) (t : Rps ex H xs ds) : Rps ex H (v :: xs) (d :: ds) := ⟨by simp [t.1], fun i x e h1 h2 => by
  cases i with
  | zero => cases h1; cases h2; exact h
  | succ i => exact t.2 i x e h1 h2⟩
theorem rps_kp (h : Rps ex H xs ds) (k : Kp ex H H1) : Rps ex H1 xs ds := ⟨h.1, fun i x d a b => (h.2 i x d a b).kp k⟩
theorem rps_same (h : Rps ex H xs ds) (k : Same H H1) : Rps ex H1 xs ds := rps_kp h (Same.kp k)
theorem rps_tail (h : Rps (p :: ex) H xs ds) : Rps ex H xs ds := ⟨h.1, fun i x d a b => (h.2 i x d a b).tail⟩
theorem rps_less (h : Rps ex H xs ds) (k : ∀ a, a ∈ ex' → a ∈ ex) : Rps ex' H xs ds := ⟨h.1, fun i x d a b => (h.2 i x d a b).less k⟩
theorem rps_grow (h : Rps ex H xs ds) (k : H p = none) : Rps (p :: ex) H xs ds := ⟨h.1, fun i x d a b => (h.2 i x d a b).grow k⟩
theorem rps_append {ys : List V} {es : List Da} (t : Rps ex H xs ds) (s : Rps ex H ys es) : Rps ex H (xs ++ ys) (ds ++ es) := ⟨by simp [t.1, s.1], fun i x e h1 h2 => by
  by_cases q : i < xs.length
  · rw [List.getElem?_append_left q] at h1
    rw [List.getElem?_append_left (by rw [← t.1]; exact q)] at h2
    exact t.2 i x e h1 h2
  · have q' : xs.length ≤ i := by omega
    rw [List.getElem?_append_right q'] at h1
    rw [List.getElem?_append_right (by rw [← t.1]; exact q')] at h2
    rw [t.1] at h1
    exact s.2 _ x e h1 h2⟩
theorem rps_snoc (t : Rps ex H xs ds) (h : Rp ex H v d) : Rps ex H (xs ++ [v]) (ds ++ [d]) := rps_append t (.cons h .nil)
theorem rps_get (t : Rps ex H xs ds) {i : Nat} (h : ds[i]? = some d) : ∃ x, xs[i]? = some x ∧ Rp ex H x d := by
  have hi : i < xs.length := by rw [t.1]; exact (List.getElem?_eq_some_iff.mp h).1
  exact ⟨xs[i], List.getElem?_eq_getElem hi, t.2 i _ d (List.getElem?_eq_getElem hi) h⟩
theorem rps_at (t : Rps ex H xs ds) {i : Nat} {x : V} (h : xs[i]? = some x) : ∃ d, ds[i]? = some d ∧ Rp ex H x d := by
  have hi : i < ds.length := by rw [← t.1]; exact (List.getElem?_eq_some_iff.mp h).1
  exact ⟨ds[i], List.getElem?_eq_getElem hi, t.2 i _ _ h (List.getElem?_eq_getElem hi)⟩
theorem rps_tup (h : Rps ex H xs ds) (n : a ∉ ex) (e : H a = some (.tup xs)) : Rp ex H (.ref a) (.tup ds) := .tup n e h.1 h.2
theorem rps_lst (h : Rps ex H xs ds) (n : a ∉ ex) (e : H a = some (.lst xs)) : Rp ex H (.ref a) (.lst ds) := .lst n e h.1 h.2
theorem Rp.tupI (h : Rp ex H v (.tup ds)) : ∃ a xs, v = .ref a ∧ a ∉ ex ∧ H a = some (.tup xs) ∧ Rps ex H xs ds := by
  cases h with
  | tup n e l h => exact ⟨_, _, rfl, n, e, l, h⟩
theorem Rp.lstI (h : Rp ex H v (.lst ds)) : ∃ a xs, v = .ref a ∧ a ∉ ex ∧ H a = some (.lst xs) ∧ Rps ex H xs ds := by
  cases h with
  | lst n e l h => exact ⟨_, _, rfl, n, e, l, h⟩
theorem Rp.intI {i : Int} (h : Rp ex H v (.int i)) : v = .int i := by cases h; rfl
theorem Rp.strI {s : Str} (h : Rp ex H v (.str s)) : v = .str s := by cases h; rfl
theorem Rp.nonI (h : Rp ex H v .non) : v = .non := by cases h; rfl
theorem Rp.blI {b : Bool} (h : Rp ex H v (.bl b)) : v = .bl b := by cases h; rfl
/-- ints -/
theorem rps_ints (ns : List Int) : Rps ex H (ns.map V.int) (ns.map Da.int) := ⟨by simp, fun i x d h1 h2 => by
  rw [List.getElem?_map] at h1 h2
  cases z : ns[i]? with
  | none => rw [z] at h1; cases h1
  | some m => rw [z] at h1 h2; cases h1; cases h2; exact .int m⟩
/-! ### their types -/
def Da.ty : Da → String
  | .non => "NoneType" | .bl _ => "bool" | .int _ => "int" | .str _ => "str" | .tup _ => "tuple" | .lst _ => "list"
theorem Rp.tyx (h : Rp ex H v d) : TyX K H v (.type d.ty) := by
  cases h with
  | non => exact .base .non
  | bl b => exact .base (.bl b)
  | int i => exact .base (.int i)
  | str s => exact .base (.str s)
  | tup n e l h => exact .base (.tup e)
  | lst n e l h => exact .base (.lst e)
/-- isinstance(v, T) -/
def Da.isa (d : Da) (T : String) : Bool := match d with
  | .non => T == "NoneType" | .bl _ => T == "bool" || T == "int" | .int _ => T == "int" | .str _ => T == "str" | .tup _ => T == "tuple" | .lst _ => T == "list"
theorem Da.kit {T : String} (d : Da) (h : T ∈ ["bool", "int", "str", "tuple", "list"]) : PySem.W.kitOne K (.type d.ty) (.type T) = some (d.isa T) := by
  simp only [List.mem_cons, List.not_mem_nil, or_false] at h
  rcases h with rfl | rfl | rfl | rfl | rfl <;> cases d <;> (dsimp only [Da.ty, Da.isa]; exact kit_ty (by decide +kernel))
theorem x_isa {Q : VK} {T : String} (h : Rp ex H v d) (hT : T ∈ ["bool", "int", "str", "tuple", "list"]) (q : Q (.bl (d.isa T)) H) : rIsi K [v, .ty T] H Q :=
  ⟨v, .ty T, .type d.ty, .type T, d.isa T, rfl, .ty T, h.tyx, d.kit hT, q⟩
theorem x_isaB {Q : VK} {T : String} {b : Bool} (h : Rp ex H v d) (hT : T ∈ ["bool", "int", "str", "tuple", "list"]) (hb : d.isa T = b) (q : Q (.bl b) H) : rIsi K [v, .ty T] H Q := x_isa h hT (by rw [hb]; exact q)
theorem x_eqR {Q : VK} (h : scal v v = true) (q : Q (.bl true) H) : rEqX K v v H Q := .inl ⟨h, by rw [decide_eq_true rfl]; exact q⟩
theorem x_isLT {Q : VK} {t : Addr} (h : Rp ex H v d) (e : H t = some (.tup [.ty "list", .ty "tuple"])) (q : Q (.bl (d.isa "list" || d.isa "tuple")) H) : rIsiT K [v, .ref t] H Q := by
  refine ⟨v, t, [.ty "list", .ty "tuple"], .type d.ty, [.type "list", .type "tuple"], (d.isa "list" || d.isa "tuple"), rfl, e, .cons (.ty _) (.cons (.ty _) .nil), h.tyx, ?_, q⟩
  have h1 := d.kit (K := K) (T := "list") (by decide)
  have h2 := d.kit (K := K) (T := "tuple") (by decide)
  refine kitAny_cons h1 (fun e => ?_) (fun e => by rw [e]; rfl)
  refine kitAny_cons h2 (fun e2 => ?_) (fun e2 => by rw [e2, Bool.or_true])
  rw [e, e2]
  exact kitAny_nil
theorem x_lenR {Q : VK} (h : Rp ex H v d) (hd : d = .tup ds ∨ d = .lst ds) (q : Q (.int (ds.length : Int)) H) :
    rLen K [v] H Q := by
  rcases hd with rfl | rfl
  · obtain ⟨a, xs, rfl, n, e, r⟩ := h.tupI
    exact ⟨a, xs, rfl, .inr (SqT.of e), by rw [r.1]; exact q⟩
  · obtain ⟨a, xs, rfl, n, e, r⟩ := h.lstI
    exact ⟨a, xs, rfl, .inl (SqL.of e), by rw [r.1]; exact q⟩
theorem x_lenL {Q : VK} (h : H p = some (.lst xs)) (q : Q (.int (xs.length : Int)) H) :
    rLen K [.ref p] H Q := ⟨p, xs, rfl, .inl (SqL.of h), q⟩
theorem x_lenT {Q : VK} (h : H p = some (.tup xs)) (q : Q (.int (xs.length : Int)) H) :
    rLen K [.ref p] H Q := ⟨p, xs, rfl, .inr (SqT.of h), q⟩
end
/-! ### pure data of a depth; the same in lists -/
inductive Dn : Nat → Da → Prop where
  | non {n} : Dn (n + 1) .non
  | bl {n} (b : Bool) : Dn (n + 1) (.bl b)
  | int {n} (i : Int) : Dn (n + 1) (.int i)
  | str {n} (s : Str) : Dn (n + 1) (.str s)
  | tup {n} {l : List Da} (hl : l.length ≤ 1000) (h : ∀ d, d ∈ l → Dn n d) : Dn (n + 1) (.tup l)
theorem Dn.mono {n m : Nat} {d : Da} (h : Dn n d) : n ≤ m → Dn m d := by
  induction h generalizing m with
  | non => intro z; cases m with | zero => omega | succ m => exact .non
  | bl b => intro z; cases m with | zero => omega | succ m => exact .bl b
  | int i => intro z; cases m with | zero => omega | succ m => exact .int i
  | str s => intro z; cases m with | zero => omega | succ m => exact .str s
  | tup hl h ih => intro z; cases m with | zero => omega | succ m => exact .tup hl fun d hd => ih d hd (by omega)
mutual
def Da.listed : Da → Da
  | .tup l => .lst (listedL l)
  | d => d
def listedL : List Da → List Da
  | [] => []
  | d :: l => d.listed :: listedL l
end
theorem listedL_eq (l : List Da) : listedL l = l.map Da.listed := by
  induction l with
  | nil => rfl
  | cons d l ih => rw [listedL, List.map_cons, ih]
theorem listed_tup (l : List Da) : (Da.tup l).listed = .lst (l.map Da.listed) := by
  rw [Da.listed, listedL_eq]
end Bx
namespace Bx
open PySem L2
section
variable {H : Hp} {Q : VK} {i j : Int} {xs : List V} {m : Nat} {p : Addr} {K : PySem.W.Frag} {v : V} {P : Prop}
theorem sz {n : Nat} (h : n ≤ 100000) : n ≤ sizeLine := Nat.le_trans h (by decide)
theorem szl {n : Nat} (h : n < 100000) : n < sizeLine := Nat.lt_of_lt_of_le h (by decide)
theorem x_exI {P : Int → Prop} (q : P i) : ∃ j, V.int i = V.int j ∧ P j := ⟨i, rfl, q⟩
theorem x_mkt (hm : xs.length = m) (h : m ≤ 100000) (q : ∀ p, H p = none → Q (.ref p) (upd H p (.tup xs))) : mkT xs H Q := ⟨by rw [hm]; exact sz h, q⟩
theorem x_mkl (hm : xs.length = m) (h : m ≤ 100000) (q : ∀ p, H p = none → Q (.ref p) (upd H p (.lst xs))) : mkL xs H Q := ⟨by rw [hm]; exact sz h, q⟩
theorem x_bmL {f : Prop} (h : H p = some (.lst xs)) (q : f) : tyV K "list" (.ref p) H ∧ f := ⟨.inl ⟨rfl, xs, SqL.of h⟩, q⟩
theorem cmulL {i j : Int} (h1 : -(2 ^ 64) < i) (h2 : i < 2 ^ 64) : CMul i j := .inl ⟨h1, h2⟩
theorem cmulR {i j : Int} (h1 : -(2 ^ 64) < j) (h2 : j < 2 ^ 64) : CMul i j := .inr ⟨h1, h2⟩
theorem map_snoc (rs : List Int) (w : Int) : rs.map V.int ++ [V.int w] = (rs ++ [w]).map V.int := by simp
theorem x_start {N : List Str} {vs : List V} {t : TS} {D : Ends} {σ' : L2.St} (e : start N vs = σ') (h : t D σ' H) : t D (start N vs) H := e ▸ h
theorem ints_at {ns : List Int} {j : Nat} {z : Int} (h : ns[j]? = some z) : (ns.map V.int)[j]? = some (V.int z) := by rw [List.getElem?_map, h]; rfl
theorem x_lcS {σ : L2.St} {a : Addr} {g : TG} {tt : TT} {tx : TE} {vs : List Nat} (h : H a = some (.tup xs) ∨ H a = some (.lst xs)) (Pv : Addr → Nat → Hp → Prop) (h0 : ∀ D, H D = none → Pv D 0 (upd H D (.lst []))) (hl : ∀ D i H1, Pv D i H1 → Same H H1)
    (hs : ∀ D i x H, xs[i]? = some x → Pv D i H → g x (wipe σ vs) H fun σ2 H2 => wipe σ2 vs = wipe σ vs ∧ tt σ2 H2 fun b H3 =>
      if b = true then tx σ2 H3 fun y H4 => ∃ acc, H4 D = some (.lst acc) ∧ acc.length < sizeLine ∧ Pv D (i + 1) (upd H4 D (.lst (acc ++ [y]))) else Pv D (i + 1) H3) (hd : ∀ D H, Pv D xs.length H → Q (.ref D) H) :
    ∃ a', V.ref a = .ref a' ∧ (((∃ xs, SqL K H a' xs) ∧ rawC (Itl K a') g tt tx vs σ H Q) ∨ ((∃ xs, SqT K H a' xs) ∧ rawC (Itt K a') g tt tx vs σ H Q)) := by
  rcases h with h | h
  · exact x_lcT (SqT.of h) Pv h0 (fun D i H1 _ p => SqT.of (hl D i H1 p _ _ h)) hs hd
  · exact x_lcL (SqL.of h) Pv h0 (fun D i H1 _ p => SqL.of (hl D i H1 p _ _ h)) hs hd
theorem x_lenS {p : Addr} (h : H p = some (.tup xs) ∨ H p = some (.lst xs)) (q : Q (.int (xs.length : Int)) H) : rLen K [.ref p] H Q := h.elim (fun h => x_lenT h q) fun h => x_lenL h q
theorem x_ixS {p : Addr} {i : Int} (h : H p = some (.tup xs) ∨ H p = some (.lst xs)) (e : atI xs i = some v) (q : Q v H) : rIxX K (.ref p) (.int i) H Q := h.elim (fun h => x_ixT h e q) fun h => x_ixL h e q
/-- a sequence of data, a list or a tuple -/
def Da.seq (d : Da) (ds : List Da) : Prop := d = .tup ds ∨ d = .lst ds
theorem Rp.seqI {ex : List Addr} {d : Da} {ds : List Da} (h : Rp ex H v d) (e : d.seq ds) : ∃ a xs, v = .ref a ∧ a ∉ ex ∧ (H a = some (.tup xs) ∨ H a = some (.lst xs)) ∧ Rps ex H xs ds := by
  rcases e with rfl | rfl
  · obtain ⟨a, xs, e1, e2, e3, e4⟩ := h.tupI
    exact ⟨a, xs, e1, e2, .inl e3, e4⟩
  · obtain ⟨a, xs, e1, e2, e3, e4⟩ := h.lstI
    exact ⟨a, xs, e1, e2, .inr e3, e4⟩
theorem cut_from (xs : List V) (k : Nat) : cutV xs (some (k : Int)) none = xs.drop k := by
  unfold cutV
  rw [HT.sIx_nat, HT.sIx_none]
  by_cases h : k ≤ xs.length
  · rw [Nat.min_eq_left h, List.take_of_length_le (by rw [List.length_drop]; exact Nat.le_refl _)]
  · rw [Nat.min_eq_right (by omega), List.drop_eq_nil_of_le (Nat.le_refl _), List.drop_eq_nil_of_le (by omega), List.take_nil]
theorem cut_to (xs : List V) (k : Nat) : cutV xs none (some (k : Int)) = xs.take k := by
  unfold cutV
  rw [HT.sIx_nat, HT.sIx_none, List.drop_zero, Nat.sub_zero]
  by_cases h : k ≤ xs.length
  · rw [Nat.min_eq_left h]
  · rw [Nat.min_eq_right (by omega), List.take_of_length_le (Nat.le_refl _), List.take_of_length_le (by omega)]
section
variable {ex : List Addr} {d d' : Da} {ds es : List Da} {u : V} {z : Int}
theorem rps_take {n : Nat} (h : Rps ex H xs ds) : Rps ex H (xs.take n) (ds.take n) := ⟨by rw [List.length_take, List.length_take, h.1], fun i x d h1 h2 => by
  rw [List.getElem?_take] at h1 h2
  by_cases c : i < n
  · rw [if_pos c] at h1 h2; exact h.2 i x d h1 h2
  · rw [if_neg c] at h1; cases h1⟩
theorem rps_drop {n : Nat} (h : Rps ex H xs ds) : Rps ex H (xs.drop n) (ds.drop n) := ⟨by rw [List.length_drop, List.length_drop, h.1], fun i x d h1 h2 => by
  rw [List.getElem?_drop] at h1 h2
  exact h.2 _ x d h1 h2⟩
theorem x_mkT (r : Rps ex H xs ds) (L : Live ex H) (hl : ds.length ≤ 100000) (q : ∀ v' H', Same H H' → Rp ex H' v' (.tup ds) → Q v' H') : mkT xs H Q :=
  ⟨by rw [r.1]; exact sz hl, fun p hp => q _ _ (Same.new (Same.refl _) hp) (rps_tup (rps_same r (Same.new (Same.refl _) hp)) (L.new hp) upd_same)⟩
theorem x_mkL (r : Rps ex H xs ds) (L : Live ex H) (hl : ds.length ≤ 100000) (q : ∀ v' H', Same H H' → Rp ex H' v' (.lst ds) → Q v' H') : mkL xs H Q :=
  ⟨by rw [r.1]; exact sz hl, fun p hp => q _ _ (Same.new (Same.refl _) hp) (rps_lst (rps_same r (Same.new (Same.refl _) hp)) (L.new hp) upd_same)⟩
theorem x_slR {lo hi : Option Int} (h : Rp ex H v (.tup ds)) (L : Live ex H) (q : ∀ v' H' ds', Same H H' → Rp ex H' v' (.tup ds') → (∀ xs, Rps ex H xs ds → Rps ex H (cutV xs lo hi) ds' ) → Q v' H') (hd : ∃ ds', ∀ xs, Rps ex H xs ds → Rps ex H (cutV xs lo hi) ds') : rSlX K v lo hi H Q := by
  obtain ⟨ds', hc⟩ := hd
  obtain ⟨a, xs, rfl, n, e, r⟩ := h.tupI
  refine x_slT e (fun w => ?_) (fun _ p hp => q _ _ ds' (Same.new (Same.refl _) hp) (rps_tup (rps_same (hc xs r) (Same.new (Same.refl _) hp)) (L.new hp) upd_same) hc)
  have e2 : cutV xs lo hi = xs := by
    unfold cutV
    rw [w.1, w.2, List.drop_zero, Nat.sub_zero, List.take_length]
  have r2 := hc xs r
  rw [e2] at r2
  exact q _ _ ds' (Same.refl _) (rps_tup r2 n e) hc
theorem x_slFrom {k : Nat} (h : Rp ex H v (.tup ds)) (hz : z = (k : Int)) (L : Live ex H) (q : ∀ v' H', Same H H' → Rp ex H' v' (.tup (ds.drop k)) → Q v' H') : rSlX K v (some z) none H Q := by
  subst hz
  obtain ⟨a, xs, rfl, n, e, r⟩ := h.tupI
  have r2 : Rps ex H (cutV xs (some (k : Int)) none) (ds.drop k) := by rw [cut_from]; exact rps_drop r
  refine x_slT e (fun w => ?_) (fun _ p hp => q _ _ (Same.new (Same.refl _) hp) (rps_tup (rps_same r2 (Same.new (Same.refl _) hp)) (L.new hp) upd_same))
  have e2 : cutV xs (some (k : Int)) none = xs := by
    unfold cutV
    rw [w.1, w.2, List.drop_zero, Nat.sub_zero, List.take_length]
  rw [e2] at r2
  exact q _ _ (Same.refl _) (rps_tup r2 n e)
theorem x_slTo {k : Nat} (h : Rp ex H v (.tup ds)) (hz : z = (k : Int)) (L : Live ex H) (q : ∀ v' H', Same H H' → Rp ex H' v' (.tup (ds.take k)) → Q v' H') : rSlX K v none (some z) H Q := by
  subst hz
  obtain ⟨a, xs, rfl, n, e, r⟩ := h.tupI
  have r2 : Rps ex H (cutV xs none (some (k : Int))) (ds.take k) := by rw [cut_to]; exact rps_take r
  refine x_slT e (fun w => ?_) (fun _ p hp => q _ _ (Same.new (Same.refl _) hp) (rps_tup (rps_same r2 (Same.new (Same.refl _) hp)) (L.new hp) upd_same))
  have e2 : cutV xs none (some (k : Int)) = xs := by
    unfold cutV
    rw [w.1, w.2, List.drop_zero, Nat.sub_zero, List.take_length]
  rw [e2] at r2
  exact q _ _ (Same.refl _) (rps_tup r2 n e)
theorem x_addR (h1 : Rp ex H v (.tup ds)) (h2 : Rp ex H u (.tup es)) (hl : ds.length + es.length ≤ 100000) (L : Live ex H) (q : ∀ v' H', Same H H' → Rp ex H' v' (.tup (ds ++ es)) → Q v' H') : rAddX K v u H Q := by
  obtain ⟨a, xs, rfl, n1, e1, r1⟩ := id h1.tupI
  obtain ⟨b, ys, rfl, n2, e2, r2⟩ := id h2.tupI
  refine x_addT e1 e2 (by rw [r1.1, r2.1]; exact sz hl) (fun w => ?_) (fun _ w => ?_) (fun p hp => q _ _ (Same.new (Same.refl _) hp) (rps_tup (rps_same (rps_append r1 r2) (Same.new (Same.refl _) hp)) (L.new hp) upd_same))
  · subst w
    have e : ds = [] := List.length_eq_zero_iff.mp r1.1.symm
    subst e
    exact q _ _ (Same.refl _) h2
  · subst w
    have e : es = [] := List.length_eq_zero_iff.mp r2.1.symm
    subst e
    rw [List.append_nil] at q
    exact q _ _ (Same.refl _) h1
theorem x_addLR (h1 : Rp ex H v (.lst ds)) (h2 : Rp ex H u (.lst es)) (hl : ds.length + es.length ≤ 100000) (L : Live ex H) (q : ∀ v' H', Same H H' → Rp ex H' v' (.lst (ds ++ es)) → Q v' H') : rAddX K v u H Q := by
  obtain ⟨a, xs, rfl, n1, e1, r1⟩ := h1.lstI
  obtain ⟨b, ys, rfl, n2, e2, r2⟩ := h2.lstI
  exact x_addL e1 e2 (by rw [r1.1, r2.1]; exact sz hl) (fun p hp => q _ _ (Same.new (Same.refl _) hp) (rps_lst (rps_same (rps_append r1 r2) (Same.new (Same.refl _) hp)) (L.new hp) upd_same))
theorem rps_rep (r : Rps ex H xs ds) : ∀ k : Nat, Rps ex H (List.replicate k xs).flatten (List.replicate k ds).flatten
  | 0 => .nil
  | k + 1 => by
    rw [List.replicate_succ, List.replicate_succ, List.flatten_cons, List.flatten_cons]
    exact rps_append r (rps_rep r k)
theorem x_repR (h1 : Rp ex H v (.tup ds)) (h0 : ds ≠ []) (hl : ds.length ≤ 1000) (h2 : 2 ≤ z) (h3 : z ≤ 1000) (L : Live ex H) (q : ∀ v' H', Same H H' → Rp ex H' v' (.tup (List.replicate z.toNat ds).flatten) → Q v' H') : rMulX K v (.int z) H Q := by
  obtain ⟨a, xs, rfl, n1, e1, r1⟩ := h1.tupI
  exact x_repT e1 (fun w => h0 (List.length_eq_zero_iff.mp (by rw [← r1.1, w]; rfl))) h2 h3 (by rw [r1.1]; exact hl) fun p hp => q _ _ (Same.new (Same.refl _) hp) (rps_tup (rps_same (rps_rep r1 _) (Same.new (Same.refl _) hp)) (L.new hp) upd_same)
theorem x_ixR {i : Nat} (h : Rp ex H v d) (hs : d.seq ds) (e : ds[i]? = some d') (hz : z = (i : Int)) (q : ∀ x, Rp ex H x d' → Q x H) : rIxX K v (.int z) H Q := by
  subst hz
  obtain ⟨a, xs, rfl, n, e1, r⟩ := h.seqI hs
  obtain ⟨x, g, rx⟩ := rps_get r e
  exact x_ixS e1 (atI_nat g) (q x rx)
end
theorem get_ex {α : Type} {l : List α} {i n : Nat} (hn : l.length = n) (h : i < n) : ∃ d, l[i]? = some d := ⟨_, List.getElem?_eq_getElem (by rw [hn]; exact h)⟩
theorem x_try {C : Addr} {i : Nat} {tb : WX → TS} {ts : Addr → Value → Option Addr → TS} {Wo : WX} {σ : L2.St} {n b c : L2.St → Hp → Prop} {r : VK} (q : tb (wAs K (.ref C) i ts Wo ⟨n, r, b, c⟩) ⟨n, r, b, c⟩ σ H) : tTry K C i tb ts Wo ⟨n, r, b, c⟩ σ H := q
theorem x_allB {a : Addr} (bs : List Bool) (h : H a = some (.lst (bs.map V.bl))) (q : Q (.bl (bs.all id)) H) : rAll K [.ref a] H Q := ⟨a, bs, rfl, SqL.of h, q⟩
end
end Bx

namespace Bx
open PySem PySem.W PySem.Calls PyProof.Rows PySem.HandSPX
open Builtin Builtin.ObjectAttr
/-! ### own errors over Exception: the row of classes, the first field stored -/
abbrev exEnd : List Value := [.type "Exception", .type "BaseException", .type "object"]
/-- own classes, then Exception's own row -/
def exRow : List Value → Bool
  | .ref _ :: r => exRow r
  | l => l == exEnd
theorem exRow_two (l : List Value) (e : exRow l = true) : (∃ c r, l = .ref c :: r ∧ exRow r = true) ∨ l = exEnd := by
  match l, e with
  | .ref c :: r, e => exact .inl ⟨c, r, rfl, e⟩
  | [], e => exact .inr (beq_iff_eq.mp e)
  | .none :: _, e => exact .inr (beq_iff_eq.mp e)
  | .ellipsis :: _, e => exact .inr (beq_iff_eq.mp e)
  | .notImplemented :: _, e => exact .inr (beq_iff_eq.mp e)
  | .bool _ :: _, e => exact .inr (beq_iff_eq.mp e)
  | .int _ _ :: _, e => exact .inr (beq_iff_eq.mp e)
  | .float _ _ :: _, e => exact .inr (beq_iff_eq.mp e)
  | .str _ _ :: _, e => exact .inr (beq_iff_eq.mp e)
  | .bytes _ _ :: _, e => exact .inr (beq_iff_eq.mp e)
  | .type _ :: _, e => exact .inr (beq_iff_eq.mp e)
  | .builtin _ :: _, e => exact .inr (beq_iff_eq.mp e)
theorem exRow_loop (self : Value) (l : List Value) : exRow l = true → refuseLoop self "__setattr__" l = pure () := by
  induction l with
  | nil => exact fun e => absurd e (by decide)
  | cons a r ih =>
    intro e
    rcases exRow_two _ e with ⟨c, r', q, h⟩ | q
    · obtain ⟨rfl, rfl⟩ := List.cons.inj q
      exact (refuseLoop_ref ..).trans (ih h)
    · rw [q]; exact F.store_Exception.passes self
theorem exRow_has (X : String) (l : List Value) : exRow l = true → l.contains (.type X) = exEnd.contains (.type X) := by
  induction l with
  | nil => exact fun e => absurd e (by decide)
  | cons a r ih =>
    intro e
    rcases exRow_two _ e with ⟨c, r', q, h⟩ | q
    · obtain ⟨rfl, rfl⟩ := List.cons.inj q
      exact (List.contains_cons ..).trans ((by rw [ih h]; rfl))
    · rw [q]
theorem exRow_some {l : List Value} (e : exRow l = true) : l.isEmpty = false := by
  cases l with
  | nil => exact absurd e (by decide)
  | cons _ _ => rfl
theorem one_size (v : Value) : [v].length ≤ sizeLine := Nat.le_trans (show 1 ≤ 1000 by decide) (by decide)
theorem slot_ld {M : Model} {s : Shared} {name : Str} {scope : Scope} {L a : Addr} {cd : Value} {m : Str → Option Value} {x : Str} {pos : Pos} {v : Value} {Q : Value → Shared → Prop} {A : Around} {E : Value → Shared → Prop} (hn : s.heap.Ns L m) (hv : m x = some v) (h : Q v s)
    (hk : scope.kind = .function := by rfl) (hl : (envOfC name scope L a cd).kindOf x = some .local := by rfl) (hd : (x == ("__debug__" : Str)) = false := by decide) :
    wpAny M A (eval (.Name x pos) (envOfC name scope L a cd)) Q E s := wpAny_Name (wpAny_loadName_local hk hl hn hv h) hd
section
variable {prog : Program} {w : World} {A : Around} {R : Result → Shared → Prop} {hp : Heap} {g : Array GenState} {d : Drawn} {t : Nat} {os : OsState}
theorem first_store {K : W.Frag} {name : Str} {tk : Tok} {v : Value} {x C : Addr} {fv : Array Value} {cd : ClassData}
    (X : K.In hp) (hx : hp.get? x = some { cls := .ref C, data := .fields fv }) (hcd : W.clsIn K C = some cd) (hm : exRow cd.mro = true) (hh : cd.hasDict = true) (ha : W.findIn K (.ref C) name = some none)
    (hq : ∀ h' tk' dx, (∀ b o, b ≠ x → hp.get? b = some o → h'.get? b = some o) → hp.objs.size ≤ dx → dx ≠ x → h'.get? x = some { cls := .ref C, dict := some dx, data := .fields fv } →
      h'.Ns1 dx (fun y => if y = name then some v else none) → R (.ok (.ret .none)) ⟨h', g, d, tk', os⟩) :
    codeAny (model prog w) A (.call (.builtin "object.__setattr__") ⟨[.ref x, .str name tk, v], []⟩) R ⟨hp, g, d, t, os⟩ := by
  have I : W.InstAt hp x { cls := .ref C, data := .fields fv } C none := ⟨hx, rfl, rfl, trivial⟩
  have hob : cd.mro.contains (.type "object") = true := (exRow_has "object" _ hm).trans (by decide +kernel)
  have hxs : x ≠ hp.objs.size := Nat.ne_of_lt (Heap.lt_size hx)
  have sub : W.Looks (model prog w) hp (isInstance (.ref x) (.type "object")) true := I.type.andThen (W.looks_mroIn X (by unfold W.mroIn; rw [hcd, Option.bind_some, if_neg (by rw [exRow_some hm]; decide), hob]))
  refine codeAny_call_builtin F.store_object.slot.plain F.store_object.entry (@W.check_slot (model prog w) _ _ ⟨hp, g, d, t, os⟩ "object.__setattr__" "object" "__setattr__" (.ref x) [.str name tk, v] [] _ F.store_object.kind F.store_object.split sub (F.store_object.args (.ref x) (.str name tk) v) ?_)
  have hmr : W.Looks (model prog w) hp (mroOf (.ref C)) cd.mro := (W.looks_clsIn X hcd).andThen .now
  have hst : W.Looks (model prog w) hp (storeTaker? none) none := .now
  have hcls : W.Looks (model prog w) hp (classData C) cd := W.looks_clsIn X hcd
  rw [W.osa_eq, refuse_eq]
  refine wpAny_bind (wpAny_bind (I.type.at (wpAny_bind (hmr.at ?_))))
  rw [exRow_loop _ _ hm]
  refine wpAny_pure (wpAny_bind (I.type.at (wpAny_bind ((W.looks_findIn X ha).at (wpAny_bind (hst.at ?_))))))
  show wpAny _ _ (storeInOwnDict (.ref x) (.ref C) (.str name tk) name v false) _ _ _
  obtain ⟨nm, bs, mro, ns, qn, hd, sn, sb, ab, col, del⟩ := cd
  dsimp only at hh
  subst hh
  unfold storeInOwnDict ownDictForStores
  repeat (first | with_reducible refine store_in_new ?_ ?_ | with_reducible refine wpAny_loadPart_at hx ?_ | with_reducible refine hcls.at ?_ | wp_step)
  · exact ⟨_, #[], _, (Heap.get?_update_ne _ _ _ _ hxs.symm).trans (Heap.get?_push_at rfl rfl), rfl, fun e he => absurd he (by simp), fun _ => rfl⟩
  · intro h' tk' hn' hs
    have hx₁ : (hp.push { cls := .type "dict", data := .dict #[] }).get? x = some { cls := .ref C, data := .fields fv } := Heap.get?_push_of_some _ hx
    refine hq h' tk' hp.objs.size (fun b o hb ho => ?_) (Nat.le_refl _) hxs.symm ?_ hn'
    · exact (hs.2 b (Nat.ne_of_lt (Heap.lt_size ho))).trans ((Heap.get?_update_ne _ _ _ _ hb).trans (Heap.get?_push_of_some _ ho))
    · exact (hs.2 x hxs).trans (Heap.get?_update_self _ hx₁ rfl)
end
/-- an error of the class at S is what «except S» names -/
theorem names_self {K : Frag} {S : Addr} (h1 : subIn K (.ref S) (.type "BaseException") = some true) (h2 : isClsIn K S = true) (h3 : typeIn K (.ref S) = some (.type "type")) (h4 : subIn K (.ref S) (.ref S) = some true) :
    exmOne K (.ref S) (.ref S) = some true := by
  have e1 : (subIn K (.ref S) (.type "BaseException") == some true) = true := by rw [h1] <;> rfl
  have e2 : ((clsIn K S).isSome && typeIn K (.ref S) == some (.type "type")) = true := by
    have h2' : (clsIn K S).isSome = true := h2
    rw [h2', h3] <;> rfl
  show (if (subIn K (.ref S) (.type "BaseException") == some true) = true then (if ((clsIn K S).isSome && typeIn K (.ref S) == some (.type "type")) = true then subIn K (.ref S) (.ref S) else none) else none) = some true
  rw [if_pos e1, if_pos e2]
  exact h4
end Bx

namespace Bx
namespace Eat
open PySem PySem.W PySem.Calls PyProof.Rows PySem.HandSPX
/-- the text of __init__(self, at) -/
def iA (p1 p2 : Pos) : Arguments := { posonlyargs := [], args := [{ arg := "self", annotation := none, pos := p1 }, { arg := "at", annotation := none, pos := p2 }], vararg := none, kwonlyargs := [], kw_defaults := [], kwarg := none, defaults := [] }
def iB (q1 q2 q3 q4 : Pos) : List Stmt := [.Assign [.Attribute (.Name "self" q1) "at" q2] (.Name "at" q3) q4]
def iS : Scope := { kind := .function, names := [(PySem.Str.ofString "self", .local), (PySem.Str.ofString "at", .local)], isGenerator := false, isCoroutine := false, more := [] }
/-- what stands of the class (named x, at C) and of its __init__ (at fI) -/
structure Tx (K : Frag) (mg : Str → Option Value) (x q : Str) (C fI : Addr) : Prop where
  gC : mg x = some (.ref C)
  cls : ∃ nm q N bs bm sn sub ab col dd k0 k1 k2 k3 k5, K.lookup C = some (excClassObj nm q C N bs bm true sn sub ab col dd k0 k1 k2 k3 k5 "Exception.__new__") ∧ exRow bm = true
  sa : findIn K (.ref C) "__setattr__" = some (some (.builtin "object.__setattr__"))
  ga : findIn K (.ref C) "__getattribute__" = some (some (.builtin "BaseException.__getattribute__"))
  gg : findIn K (.ref C) "__getattr__" = some none
  noN : findIn K (.ref C) "at" = some none
  iC : findIn K (.ref C) "__init__" = some (some (.ref fI))
  tC : typeIn K (.ref fI) = some (.type "function")
  kC : keepIn K (.ref C) = true
  exC : subIn K (.ref C) (.type "BaseException") = some true
  tyC : typeIn K (.ref C) = some (.type "type")
  hdC : hasDictIn K C = true
  te : exmOne K (.ref C) (.ref C) = some true
  fn : ∃ (oc : Value) (od : Option Addr) (doc pm : Value) (an : Option Addr) (cdv ct : Value) (osl : Array (Option Value)) (p1 p2 q1 q2 q3 q4 : Pos),
    K.lookup fI = some ⟨oc, od, .func (fnOf "__init__" q (iA p1 p2) (iB q1 q2 q3 q4) iS .none .none doc pm an cdv ct), osl⟩ ∧ codeIn K cdv q = true
structure InitEnd (h h' : Heap) (x C dx t1 : Addr) (v : Value) : Prop where
  keep : ∀ b o, b ≠ x → h.get? b = some o → h'.get? b = some o
  obj : h'.get? x = some { cls := .ref C, dict := some dx, data := .fields #[.ref t1, .none, .none, .none, .bool false, .none] }
  dbig : h.objs.size ≤ dx
  dne : dx ≠ x
  ns : h'.Ns1 dx (fun y => if y = "at" then some v else none)
structure Made (h h' : Heap) (e C d : Addr) (v : Value) : Prop where
  keep : ∀ b o, h.get? b = some o → h'.get? b = some o
  new : h.objs.size ≤ e
  obj : ∃ oe vs, h'.get? e = some oe ∧ oe.cls = .ref C ∧ oe.dict = some d ∧ oe.data = .fields vs ∧ vs[1]? = some .none
  dbig : h.objs.size ≤ d
  dne : d ≠ e
  ns : h'.Ns1 d (fun y => if y = "at" then some v else none)
section
variable {prog : Program} {w : World} {A : Around} {E : Value → Shared → Prop} {R : Result → Shared → Prop} {s : Shared} {K : Frag} {mg : Str → Option Value} {x0 q0 : Str} {C fI : Addr}
theorem init_run (T : Tx K mg x0 q0 C fI) {x t0 : Addr} {v : Value} (X : K.In s.heap) (hlim : s.heap.NoLimit) (hx : s.heap.get? x = some (excO C t0)) (hnx : K.lookup x = none) (hroom : A.depth < recursionLimit)
    (hq : ∀ h' tk dx, InitEnd s.heap h' x C dx t0 v → R (.ok (.ret .none)) { s with heap := h', toks := tk }) :
    codeAny (model prog w) A (.call (.ref fI) ⟨[.ref x, v], []⟩) R s := by
  obtain ⟨oc, od, doc, pm, an, cdv, ct, osl, p1, p2, q1, q2, q3, q4, ho, hcd⟩ := T.fn
  obtain ⟨nm, q, N, bs, bm, sn, sub, ab, col, dd, k0, k1, k2, k3, k5, hC, hbm⟩ := T.cls
  have hcl : clsIn K C = some { name := nm, bases := bs, mro := .ref C :: bm, ns := N, qualname := q, hasDict := true, slotNames := sn, subclasses := sub, abstract := ab, collection := col, hasDel := false } := by unfold clsIn; rw [hC] <;> rfl
  refine Att.call_fn (binds := [("self", .ref x), ("at", v)]) X hlim ho hcd hroom (BindsTo.of_eq (by first | rfl | with_unfolding_all rfl)) (by first | rfl | decide | with_unfolding_all rfl) (fun s₁ IC => ?_) rfl rfl rfl
  obtain ⟨h₁, tk₁, rfl⟩ := IC.toInCall.same
  have k : ∀ b o, s.heap.get? b = some o → h₁.get? b = some o := IC.toInCall.keep
  have hn := IC.toInCall.ns
  have hxL : s.heap.objs.size ≠ x := Nat.ne_of_gt (Heap.lt_size hx)
  have X₁ : K.In h₁ := X.keeps k
  have hx₁ := k _ _ hx
  show wpAny _ _ (execs _ _) _ _ _
  refine wpAny_execs_cons (plainObj_wpAny_Assign_Attribute ?_)
  refine slot_ld (v := v) hn (by first | rfl | with_unfolding_all rfl | kernel_rfl) (slot_ld (v := .ref x) hn (by first | rfl | with_unfolding_all rfl | kernel_rfl) ?_)
  refine set_plain X₁ (ox := excO C t0) (od := none) ⟨hx₁, rfl, rfl, trivial⟩ T.sa ?_
  refine first_store X₁ hx₁ hcl (show exRow (.ref C :: bm) = true from hbm) rfl T.noN (fun h₃ tk₃ dx k₃ dn dne hx₃ hn₃ => ?_)
  show wpAny _ _ (execs _ _) _ _ _
  have z : s.heap.objs.size < h₁.objs.size := hn.lt
  exact wpAny_execs_nil (hq h₃ tk₃ dx ⟨fun b o hb e => k₃ b o hb (k b o e), hx₃, Nat.le_of_lt (Nat.lt_of_lt_of_le z dn), dne, hn₃⟩)
theorem made_run (T : Tx K mg x0 q0 C fI) {v : Value} (X : K.In s.heap) (hlim : s.heap.NoLimit) (hroom : A.depth + 1 < recursionLimit)
    (hq : ∀ h' tk e d, Made s.heap h' e C d v → R (.ok (.ret (.ref e))) { s with heap := h', toks := tk }) :
    codeAny (model prog w) A (.call (.ref C) ⟨[v], []⟩) R s := by
  obtain ⟨nm, q, N, bs, bm, sn, sub, ab, col, dd, k0, k1, k2, k3, k5, hC, hbm⟩ := T.cls
  obtain ⟨hp, g, dr, tk, os⟩ := s
  have k : ∀ b o, hp.get? b = some o → ((hp.push (kdv_tup [v])).push (excO C hp.objs.size)).get? b = some o := fun b o e => Heap.get?_push_of_some _ (Heap.get?_push_of_some _ e)
  have hget : ((hp.push (kdv_tup [v])).push (excO C hp.objs.size)).get? (hp.objs.size + 1) = some (excO C hp.objs.size) := by heap_get
  have hnx : K.lookup (hp.objs.size + 1) = none := by
    cases e : K.lookup (hp.objs.size + 1) with
    | none => rfl
    | some o =>
      have z : hp.get? (hp.objs.size + 1) = some o := X _ _ e
      exact absurd (Nat.lt_of_succ_lt (Heap.lt_size z)) (Nat.lt_irrefl _)
  refine call_own F.excBase_Exception (fun X => exRow_has X bm hbm) (X _ _ hC) (looks_findIn X T.iC) (fun self => bind_fn X self T.tC) (one_size v) ?_
  refine init_run (s := ⟨(hp.push (kdv_tup [v])).push (excO C hp.objs.size), g, dr, tk, os⟩) T (X.keeps k) (hlim.keeps k) hget hnx ?_ fun h' tk' dx ⟨k', hx, dn, dne, hns⟩ => ?_
  · show A.depth + 1 < recursionLimit
    exact hroom
  · have old : ∀ b o, hp.get? b = some o → h'.get? b = some o := fun b o e => k' b o (Nat.ne_of_lt (Nat.lt_succ_of_lt (Heap.lt_size e))) (k b o e)
    have z : hp.objs.size + 1 + 1 ≤ dx := by
      first
        | (simpa only [Heap.size_push] using dn)
        | exact dn
        | (have q := dn; rw [Heap.size_push, Heap.size_push] at q; exact q)
    exact ⟨rfl, hq h' tk' (hp.objs.size + 1) dx ⟨old, Nat.le_succ _, ⟨_, _, hx, rfl, rfl, rfl, rfl⟩, Nat.le_trans (Nat.le_trans (Nat.le_succ _) (Nat.le_succ _)) z, dne, hns⟩⟩
end
end Eat
end Bx
namespace Bx
namespace Eat
open PySem PySem.Spec PyProof.Rows L2
theorem rel_at {v : V} {v' : Value} (r : RelV v v') (f : Str) : RelO (List.lookup f [(("at" : Str), v)]) (if f = "at" then some v' else none) := by
  by_cases hw : f = "at"
  · subst hw
    rw [if_pos rfl]
    have q : List.lookup ("at" : Str) [(("at" : Str), v)] = some v := by simp [List.lookup]
    rw [q]
    exact r
  · rw [if_neg hw]
    have qw : (f == ("at" : Str)) = false := by simpa using hw
    have q2 : List.lookup f [(("at" : Str), v)] = none := by simp [List.lookup, qw]
    rw [q2]
    trivial
section
variable {X : Cx} {C fI : Addr} {x0 q0 : Str}
/-- x0(e), an error with the field -/
def tMk (C : Addr) (ta : TA) : L2.St → Hp → XK → Prop := fun σ H Q => ta σ H fun vs H1 => ∃ v, vs = [v] ∧ ∀ d, H1 d = none → Q (.ref C) (some d) (upd H1 d (.xd [(("at" : Str), v)]))
theorem pmk {a : Expr} {ta : TA} {p pos : Pos} {k : Nat} (T : Tx X.K X.mg x0 q0 C fI) (hr : Room k X.A) (ha : PA X [a] ta) (hg : Gl X x0) (hdb : (x0 == ("__debug__" : Str)) = false := by decide)
    (he : starEach (a :: []) X.env = (false, eval a X.env) :: starEach [] X.env := by rfl) (hpl : (backTo pos (starEach [] X.env)).any (·.1) = false := by rfl) :
    PMk X (.Call (.Name x0 p) [a] [] pos) (tMk C ta) := by
  intro pins s σ H Q I h
  refine wpAny_Call_Name_kw (ld_glob I hg T.gC ?_ hdb)
  refine PySem.W.callWith_K (h₀ := X.base) I.ok.mod.kin T.kC (thn (ha.run pos pins s σ H _ I h) fun us s1 hh => ?_) he hpl
  obtain ⟨vs, H1, I1, r1, v, ev, q1⟩ := hh
  subst ev
  refine ⟨I1.kIn, ?_⟩
  cases r1 with
  | cons rv rn =>
    rename_i v' us'
    cases rn
    show wpAny _ _ (call (.ref C) [v']) _ _ _
    have hlim := I1.nolimit
    obtain ⟨hp, g, dr, tk, os⟩ := s1
    refine wpAny_call (made_run T I1.kIn hlim (by have := hr.dp; omega) fun h' tk' e d M => ?_)
    show MkP X pins σ Q (.ref e) ⟨h', g, dr, tk', os⟩
    obtain ⟨oe, fv, hoe, hc, hd, hdat, h1⟩ := M.obj
    have hns := M.ns
    obtain ⟨G', g1, g2⟩ := restrict h' fun b => decide (b ≠ e)
    have gk : ∀ b, b ≠ e → G'.get? b = h'.get? b := fun b hb => g1 b (decide_eq_true hb)
    have ge : G'.get? e = none := g2 e (by simp)
    have old : ∀ b o, hp.get? b = some o → G'.get? b = some o := fun b o q => (gk b (Nat.ne_of_lt (Nat.lt_of_lt_of_le (Heap.lt_size q) M.new))).trans (M.keep b o q)
    have ob : ObjOk X.prog X.w (upd H1 d (.xd [(("at" : Str), v)])) G' d (.xd [(("at" : Str), v)]) :=
      ⟨_, hns.at (fun o q => (gk d M.dne).trans q), fun f => rel_at rv f⟩
    have J : Inv X pins σ (upd H1 d (.xd [(("at" : Str), v)])) ⟨G', g, dr, tk', os⟩ := I1.laid (t' := tk') old M.dbig ob
    refine ⟨e, oe, fv, ⟨G', g, dr, tk', os⟩, _, .ref C, some d, rfl, J, fun b o q => ?_, ge, hoe, ⟨hc, hd⟩, hdat, h1, ?_, rfl, I1.bare, raises_own T.exC T.tyC, q1 d (I1.hok.fresh M.dbig)⟩
    · by_cases hb : b = e
      · have q' : G'.get? b = some o := q
        rw [hb, ge] at q'; cases q'
      · exact (gk b hb).symm.trans q
    · rw [upd_ne (Ne.symm M.dne)]
      exact I1.hok.fresh M.new
/-- raise x0(e) -/
def tRaise (C : Addr) (W : WX) (ta : TA) : TS := fun _ σ H => tMk C ta σ H fun cls d H' => W cls d σ H'
theorem ps {a : Expr} {ta : TA} {W : WX} {p pos pos2 : Pos} {k : Nat} (hc : X.calm = true) (T : Tx X.K X.mg x0 q0 C fI) (hr : Room k X.A) (tk : Takes X W) (ha : PA X [a] ta) (hg : Gl X x0) (hdb : (x0 == ("__debug__" : Str)) = false := by decide)
    (he : starEach (a :: []) X.env = (false, eval a X.env) :: starEach [] X.env := by rfl) (hpl : (backTo pos (starEach [] X.env)).any (·.1) = false := by rfl) :
    PS X (.Raise (some (.Call (.Name x0 p) [a] [] pos)) none pos2) (tRaise C W ta) := ps_raise hc tk (pmk T hr ha hg hdb he hpl)
theorem x_raise {W : WX} {ta : TA} {σ : L2.St} {H : Hp} {n b c : L2.St → Hp → Prop} {r : VK} (q : ta σ H fun vs H1 => ∃ v, vs = [v] ∧ ∀ d, H1 d = none → W (.ref C) (some d) σ (upd H1 d (.xd [(("at" : Str), v)]))) : tRaise C W ta ⟨n, r, b, c⟩ σ H := q
/-- n.at, n the error that the suite holds (at a; its class cls, its dict d) -/
def tBy (C : Addr) (a : Addr) (cls : Value) (d : Option Addr) (te : TE) : TE := fun σ H Q => te σ H fun x H1 => x = .ref a ∧ cls = .ref C ∧ ∃ (dd : Addr) (v : V), d = some dd ∧ H1 dd = some (.xd [(("at" : Str), v)]) ∧ Q v H1
theorem x_by {a dd : Addr} {te : TE} {σ : L2.St} {H : Hp} {Q : VK} {v : V} (q : te σ H fun x H1 => x = .ref a ∧ H1 dd = some (.xd [(("at" : Str), v)]) ∧ Q v H1) (m : ∀ Q Q' : VK, (∀ v H, Q v H → Q' v H) → te σ H Q → te σ H Q') : tBy C a (.ref C) (some dd) te σ H Q :=
  m _ _ (fun _ _ z => ⟨z.1, rfl, dd, v, rfl, z.2.1, z.2.2⟩) q
theorem pe_by {a : Addr} {oe : Obj} {cls : Value} {d : Option Addr} {pn : List (Addr × Obj)} {e : Expr} {te : TE} {pos : Pos} (T : Tx X.K X.mg x0 q0 C fI) (hz : Zc cls d oe) (hf : ∃ vs, oe.data = .fields vs) (he : PE (X.suite a ((a, oe) :: pn)) e te)
    (hb : attributeBase e "at" X.env (eval e X.env) = eval e X.env := by rfl) :
    PE (X.suite a ((a, oe) :: pn)) (.Attribute e "at" pos) (tBy C a cls d te) := by
  refine ⟨fun pins s σ H Q I h => ?_⟩
  refine attr_of hb (thn (he.run pins s σ H _ I h) fun u s1 hh => ?_)
  obtain ⟨x, H1, I1, rx, ex, ec, dd, v, ed, ea, q⟩ := hh
  subst ex
  obtain rfl : u = Value.ref a := rx
  subst ec
  subst ed
  obtain ⟨ha, _⟩ := I1.pin (a, oe) (List.mem_append_left _ List.mem_cons_self)
  obtain ⟨vs, hd⟩ := hf
  have hx : ObjOk X.prog X.w H1 s1.heap dd (.xd [(("at" : Str), v)]) := I1.hok dd _ ea
  obtain ⟨mA, hns, hr⟩ := hx
  obtain ⟨od, ho, hl⟩ := lookIn_ns hns
  have l : List.lookup ("at" : Str) [(("at" : Str), v)] = some v := by simp [List.lookup]
  obtain ⟨u, hu, ru⟩ := RelO.some_of (v := v) (o := mA "at") (by rw [← l]; exact hr "at")
  have J : PySem.W.InstAt s1.heap a oe C (some od) := ⟨ha, hz.1, by unfold PySem.W.notCls; rw [hd] <;> rfl, by rw [hz.2]; exact ho⟩
  exact HandSPX.exc_get I1.kIn J T.ga T.gg T.exC (PySem.W.findObj_own T.hdC T.noN rfl (by rw [hl, hu])) (handed_of ru) ⟨v, H1, I1.tok _, ru, q⟩
end
end Eat
end Bx
namespace Bx
open PySem L2
local macro_rules | `(tactic| walk_at "st") => `(tactic| first
  | (with_reducible refine x_seq ?_)
  | (with_reducible refine x_asg ?_)
  | (with_reducible refine x_ret ?_)
  | (with_reducible refine x_drop ?_)
  | (with_reducible refine x_ifS ?_)
  | (with_reducible refine x_next ?_)
  | (with_reducible refine x_gName ?_)
  | ((with_reducible refine x_var (v := ?v) ?hv ?qv); (case hv => rfl))
  | (with_reducible refine x_c ?_)
  | (with_reducible refine x_op ?_)
  | (with_reducible refine x_un ?_)
  | (with_reducible refine x_sub ?_)
  | (with_reducible refine x_lt ?_)
  | (with_reducible refine x_le ?_)
  | (with_reducible refine x_gt ?_)
  | (with_reducible refine x_ge ?_)
  | (with_reducible refine x_neg ?_)
  | (with_reducible refine x_isN ?_)
  | (with_reducible refine x_notN ?_)
  | (with_reducible refine x_abs ?_)
  | (with_reducible refine x_addI ?_)
  | (with_reducible refine x_eqI ?_)
  | (with_reducible refine x_neI ?_)
  | (with_reducible refine x_test ?_)
  | (with_reducible refine x_tB ?_)
  | (with_reducible refine x_isB ?_)
  | (with_reducible refine x_and ?_)
  | (with_reducible refine x_or ?_)
  | (with_reducible refine x_not ?_)
  | (with_reducible refine x_andV ?_)
  | (with_reducible refine x_orV ?_)
  | (with_reducible refine x_notV ?_)
  | (with_reducible refine x_chain ?_)
  | (with_reducible refine x_ifE ?_)
  | (with_reducible refine x_cons ?_)
  | (with_reducible refine x_nil ?_)
  | (with_reducible refine x_tup ?_)
  | (with_reducible refine x_lst ?_)
  | (with_reducible refine x_cb ?_)
  | (with_reducible refine x_call ?_)
  | (with_reducible refine x_callK ?_)
  | (with_reducible refine x_callS ?_)
  | (with_reducible refine x_callSK ?_)
  | (with_reducible refine x_sl ?_)
  | (with_reducible refine x_no ?_)
  | (with_reducible refine x_part ?_)
  | (with_reducible refine x_exI ?_)
  | (with_reducible refine x_bm ?_)
  | (with_reducible refine x_gSub ?_)
  | (with_reducible refine x_gCons ?_)
  | (with_reducible refine x_gNil ?_)
  | (with_reducible refine x_iteT ?_)
  | (with_reducible refine x_iteF ?_)
  | (with_reducible refine x_iteNT ?_)
  | (with_reducible refine x_iteNF ?_)
  | (with_reducible refine x_int1 ?_)
  | (with_reducible refine x_max2 ?_)
  | (with_reducible refine x_min2 ?_)
  | (with_reducible refine x_forX ?_)
  | (with_reducible refine x_forR ?_)
  | (with_reducible refine x_lcX ?_)
  | (with_reducible refine x_lcR ?_)
  | (with_reducible refine x_tYes ?_)
  | (with_reducible refine x_brk ?_))
local macro_rules | `(tactic| walk_at "sts") => `(tactic| repeat (walk_at "st"))
local macro_rules | `(tactic| walk_at "isa") => `(tactic| first | rfl | (dsimp only [Da.isa]; decide))
local macro_rules | `(tactic| walk_at "rp") => `(tactic| first
  | assumption
  | exact Rp.int _ | exact Rp.non | exact Rp.bl _ | exact Rp.str _
  | ((refine Rp.same (H := ?Ha) ?ra ?rb); (case rb => assumption); (case ra => walk_at "rp"))
  | ((refine Rp.kp (H := ?Ha) ?ra ?rb); (case rb => assumption); (case ra => walk_at "rp")))
local macro_rules | `(tactic| walk_at "rps") => `(tactic| first
  | exact Rps.nil
  | ((refine Rps.cons ?ra ?rb); (case ra => walk_at "rp"); (case rb => walk_at "rps")))
local macro_rules | `(tactic| walk_at "wd") => `(tactic| first
  | assumption
  | ((refine Wd.same (H := ?Ha) ?ra ?rb); (case rb => assumption); (case ra => walk_at "wd")))
local macro_rules | `(tactic| walk_at "len") => `(tactic| first | exact Nat.le_of_ble_eq_true rfl | (simp; done) | (simp; omega))

def top (i : Nat) : Stmt := PySem.Challenge.pw_boundstead_k88_fractions.main.body.getD i (.Pass ⟨0, 0, 0, 0⟩)
abbrev s_is_integer : Stmt := top 5
abbrev N_is_integer : List Str := ["value"]
theorem sc_is_integer : FnScope N_is_integer ["value"] (defScope s_is_integer) := ⟨rfl, rfl, rfl, by decide +kernel, rfl, by decide +kernel, by decide +kernel⟩
abbrev s_fraction_of : Stmt := top 7
abbrev N_fraction_of : List Str := ["top", "bottom", "factor"]
theorem sc_fraction_of : FnScope N_fraction_of ["top", "bottom"] (defScope s_fraction_of) := ⟨rfl, rfl, rfl, by decide +kernel, rfl, by decide +kernel, by decide +kernel⟩
abbrev s_compare_moments : Stmt := top 8
abbrev N_compare_moments : List Str := ["one", "other", "left", "right"]
theorem sc_compare_moments : FnScope N_compare_moments ["one", "other"] (defScope s_compare_moments) := ⟨rfl, rfl, rfl, by decide +kernel, rfl, by decide +kernel, by decide +kernel⟩
abbrev s__law_so : Stmt := top 10
abbrev N__law_so : List Str := ["found", "meant", "k"]
theorem sc__law_so : FnScope N__law_so ["found", "meant"] (defScope s__law_so) := ⟨rfl, rfl, rfl, by decide +kernel, rfl, by decide +kernel, by decide +kernel⟩
abbrev s__law_numbers : Stmt := top 11
abbrev N__law_numbers : List Str := ["script", "row", "cell", "left", "k", "mixed"]
theorem sc__law_numbers : FnScope N__law_numbers ["script"] (defScope s__law_numbers) := ⟨rfl, rfl, rfl, by decide +kernel, rfl, by decide +kernel, by decide +kernel⟩
abbrev s__law_draw : Stmt := top 12
abbrev N__law_draw : List Str := ["row", "at", "limit", "mixed"]
theorem sc__law_draw : FnScope N__law_draw ["row", "at", "limit"] (defScope s__law_draw) := ⟨rfl, rfl, rfl, by decide +kernel, rfl, by decide +kernel, by decide +kernel⟩
abbrev s__law_take : Stmt := top 13
abbrev N__law_take : List Str := ["row", "spot", "limit"]
theorem sc__law_take : FnScope N__law_take ["row", "spot", "limit"] (defScope s__law_take) := ⟨rfl, rfl, rfl, by decide +kernel, rfl, by decide +kernel, by decide +kernel⟩
abbrev s__law_wide : Stmt := top 14
abbrev N__law_wide : List Str := ["row", "spot", "limit", "first", "second", "third"]
theorem sc__law_wide : FnScope N__law_wide ["row", "spot", "limit"] (defScope s__law_wide) := ⟨rfl, rfl, rfl, by decide +kernel, rfl, by decide +kernel, by decide +kernel⟩
abbrev s__law_listed : Stmt := top 15
abbrev N__law_listed : List Str := ["value", "one"]
theorem sc__law_listed : FnScope N__law_listed ["value"] (defScope s__law_listed) := ⟨rfl, rfl, rfl, by decide +kernel, rfl, by decide +kernel, by decide +kernel⟩
abbrev s__law_handed : Stmt := top 16
abbrev N__law_handed : List Str := ["row", "spot", "value"]
theorem sc__law_handed : FnScope N__law_handed ["row", "spot", "value"] (defScope s__law_handed) := ⟨rfl, rfl, rfl, by decide +kernel, rfl, by decide +kernel, by decide +kernel⟩
abbrev s__law_less : Stmt := top 17
abbrev N__law_less : List Str := ["one", "other"]
theorem sc__law_less : FnScope N__law_less ["one", "other"] (defScope s__law_less) := ⟨rfl, rfl, rfl, by decide +kernel, rfl, by decide +kernel, by decide +kernel⟩
abbrev s__law_lowest : Stmt := top 18
abbrev N__law_lowest : List Str := ["part", "one", "other", "k", "rest"]
theorem sc__law_lowest : FnScope N__law_lowest ["part"] (defScope s__law_lowest) := ⟨rfl, rfl, rfl, by decide +kernel, rfl, by decide +kernel, by decide +kernel⟩
abbrev s__law_made : Stmt := top 19
abbrev N__law_made : List Str := ["top", "bottom", "wrong"]
theorem sc__law_made : FnScope N__law_made ["top", "bottom"] (defScope s__law_made) := ⟨rfl, rfl, rfl, by decide +kernel, rfl, by decide +kernel, by decide +kernel⟩
abbrev s__law_integer : Stmt := top 20
abbrev N__law_integer : List Str := ["row", "spot", "small", "great"]
theorem sc__law_integer : FnScope N__law_integer ["row", "spot"] (defScope s__law_integer) := ⟨rfl, rfl, rfl, by decide +kernel, rfl, by decide +kernel, by decide +kernel⟩
abbrev s_law : Stmt := top 21
abbrev N_law : List Str := ["script", "row", "spot", "kept", "again", "top", "bottom", "found", "due", "bad", "one", "other"]
theorem sc_law : FnScope N_law ["script"] (defScope s_law) := ⟨rfl, rfl, rfl, by decide +kernel, rfl, by decide +kernel, by decide +kernel⟩
structure Txt (K : PySem.W.Frag) (mg : Str → Option Value) (C_BadValue fI_BadValue : Addr) : Prop where
  e_BadValue : Eat.Tx K mg "BadValue" "BadValue.__init__" C_BadValue fI_BadValue
  i_gcd : mg "gcd" = some (.builtin "math.gcd")
  b_abs : mg "abs" = none
  b_bool : mg "bool" = none
  b_int : mg "int" = none
  b_isinstance : mg "isinstance" = none
  b_len : mg "len" = none
  b_range : mg "range" = none
  b_str : mg "str" = none
  b_tuple : mg "tuple" = none
section
variable {P : Program} {w : World} {K : PySem.W.Frag} {mg : Str → Option Value} {base : Heap} {C_BadValue fI_BadValue : Addr}
def t_is_integer (K : PySem.W.Frag) : TS := (tRet (tAndV (tCB (rIsi K) (tCons (tVar 0) (tCons (tC (.ty "int")) tNil))) (tNotV (tCB (rIsi K) (tCons (tVar 0) (tCons (tC (.ty "bool")) tNil))))))
theorem d_is_integer {E : XK} {f : Addr} {A : Around} {outer : List Env} {s : Shared} {H : Hp} {cdv : Value} (hr : Room 0 (A.deeper (PyProof.Rows.envOfC "is_integer" (defScope s_is_integer) s.heap.objs.size f cdv))) (T : Txt K mg C_BadValue fI_BadValue)  :
    PSs (cxOf CX0 P w K mg base N_is_integer "is_integer" (defScope s_is_integer) f cdv A outer s H E).nox (defBody s_is_integer) (t_is_integer K) :=
  (pss_one (ps_ret (pe_and (pe_callB call_isi (by rfl) T.b_isinstance (by decide +kernel) (pa_cons (pv 0) (pa_cons (pe_bltn (v := .ty "int") (by rfl) T.b_int (by decide +kernel) rfl) pa_nil))) (pe_one (pe_not (pe_callB call_isi (by rfl) T.b_isinstance (by decide +kernel) (pa_cons (pv 0) (pa_cons (pe_bltn (v := .ty "bool") (by rfl) T.b_bool (by decide +kernel) rfl) pa_nil))))))))

def t_fraction_of (K : PySem.W.Frag) (C_BadValue : Addr) (E : XK) (sp_is_integer_ : Sp) : TS := (tSeq (tIfS (tNot (tB (tCallO sp_is_integer_ (tCons (tVar 0) tNil)))) (Eat.tRaise C_BadValue (fun cls d _ H => E cls d H) (tCons (tC (.int 0)) tNil)) tNext)
    (tSeq (tIfS (tOr (tNot (tB (tCallO sp_is_integer_ (tCons (tVar 1) tNil)))) (tTest (tOp (rEqX K) (tVar 1) (tC (.int 0))))) (Eat.tRaise C_BadValue (fun cls d _ H => E cls d H) (tCons (tC (.int 1)) tNil)) tNext)
    (tSeq (tAsg (tCB rGcd (tCons (tVar 0) (tCons (tVar 1) tNil))) (gName 2))
    (tCut (tIfS (tTest (tOp rLt (tVar 1) (tC (.int 0)))) (tAsg (tUn rNeg (tVar 2)) (gName 2)) tNext)
    (tRet (tTup (tCons (tOp rFdv (tVar 0) (tVar 2)) (tCons (tOp rFdv (tVar 1) (tVar 2)) tNil))))))))
theorem d_fraction_of {sp_is_integer_ : Sp} {E : XK} {f : Addr} {A : Around} {outer : List Env} {s : Shared} {H : Hp} {cdv : Value} (hr : Room 2 (A.deeper (PyProof.Rows.envOfC "fraction_of" (defScope s_fraction_of) s.heap.objs.size f cdv))) (T : Txt K mg C_BadValue fI_BadValue) (O_is_integer : Ok P w K mg base 1 "is_integer" ["value"] sp_is_integer_) :
    PSs (cxOf (L2.CX P w) P w K mg base N_fraction_of "fraction_of" (defScope s_fraction_of) f cdv A outer s H E) (defBody s_fraction_of) (t_fraction_of K C_BadValue E sp_is_integer_) :=
  (pss_cons (ps_if (pt_not (pt_val (pe_cO O_is_integer (hr.mono (by decide)) rfl (pa_cons (pv 0) pa_nil)))) (pss_one (Eat.ps rfl T.e_BadValue hr (takes_of rfl rfl rfl rfl) (pa_cons pe_int pa_nil) rfl)) pss_nil)
    (pss_cons (ps_if (PW.pt (pw_or (pt_not (pt_val (pe_cO O_is_integer (hr.mono (by decide)) rfl (pa_cons (pv 1) pa_nil)))) (pw_or1 (pt_cmpR (op_eqX hr.units) (pv 1) pe_int (nomark _))))) (pss_one (Eat.ps rfl T.e_BadValue hr (takes_of rfl rfl rfl rfl) (pa_cons pe_int pa_nil) rfl)) pss_nil)
    (pss_cons (ps_set (i := 2) sc_fraction_of.nd rfl (Or.inl rfl) (pe_callBfun cr_gcd rfl T.i_gcd (pa_cons (pv 0) (pa_cons (pv 1) pa_nil))))
    (pss_cut (ps_if (pt_cmpR o_lt (pv 1) pe_int (nomark _)) (pss_one (ps_set (i := 2) sc_fraction_of.nd rfl (Or.inl rfl) (pe_un u_neg (pv 2)))) pss_nil)
    (pss_one (ps_ret (pe_tup (pa_cons (pe_op o_fdiv (pv 0) (pv 2)) (pa_cons (pe_op o_fdiv (pv 1) (pv 2)) pa_nil)))))))))

def t_compare_moments (K : PySem.W.Frag) : TS := (tSeq (tAsg (tOp (rMulX K) (tOp (rIxX K) (tVar 0) (tC (.int 0))) (tOp (rIxX K) (tVar 1) (tC (.int 1)))) (gName 2))
    (tSeq (tAsg (tOp (rMulX K) (tOp (rIxX K) (tVar 1) (tC (.int 0))) (tOp (rIxX K) (tVar 0) (tC (.int 1)))) (gName 3))
    (tSeq (tIfS (tTest (tOp rLt (tVar 2) (tVar 3))) (tRet (tUn rNeg (tC (.int 1)))) tNext)
    (tSeq (tIfS (tTest (tOp rGt (tVar 2) (tVar 3))) (tRet (tC (.int 1))) tNext)
    (tRet (tC (.int 0)))))))
theorem d_compare_moments {E : XK} {f : Addr} {A : Around} {outer : List Env} {s : Shared} {H : Hp} {cdv : Value} (hr : Room 0 (A.deeper (PyProof.Rows.envOfC "compare_moments" (defScope s_compare_moments) s.heap.objs.size f cdv))) (T : Txt K mg C_BadValue fI_BadValue)  :
    PSs (cxOf CX0 P w K mg base N_compare_moments "compare_moments" (defScope s_compare_moments) f cdv A outer s H E).nox (defBody s_compare_moments) (t_compare_moments K) :=
  (pss_cons (ps_set (i := 2) sc_compare_moments.nd rfl (Or.inl rfl) (pe_op op_mulX (pe_ix ix_X (pv 0) pe_int (fun _ _ => rfl)) (pe_ix ix_X (pv 1) pe_int (fun _ _ => rfl))))
    (pss_cons (ps_set (i := 3) sc_compare_moments.nd rfl (Or.inl rfl) (pe_op op_mulX (pe_ix ix_X (pv 1) pe_int (fun _ _ => rfl)) (pe_ix ix_X (pv 0) pe_int (fun _ _ => rfl))))
    (pss_cons (ps_if (pt_cmpR o_lt (pv 2) (pv 3) (nomark _)) (pss_one (ps_ret (pe_un u_neg pe_int))) pss_nil)
    (pss_cons (ps_if (pt_cmpR o_gt (pv 2) (pv 3) (nomark _)) (pss_one (ps_ret pe_int)) pss_nil)
    (pss_one (ps_ret pe_int))))))

def t__law_so (K : PySem.W.Frag) (sp__law_so_ : Sp) : TS := (tSeq (tIfS (tTest (tOp rIsNon (tVar 1) (tC .non))) (tRet (tOp rIsNon (tVar 0) (tC .non))) tNext)
    (tSeq (tIfS (tB (tCB (rIsi K) (tCons (tVar 1) (tCons (tC (.ty "tuple")) tNil)))) (tSeq (tIfS (tOr (tNot (tB (tCB (rIsi K) (tCons (tVar 0) (tCons (tC (.ty "tuple")) tNil))))) (tTest (tOp (rNeX K) (tCB (rLen K) (tCons (tVar 0) tNil)) (tCB (rLen K) (tCons (tVar 1) tNil))))) (tRet (tC (.bl false))) tNext)
    (tSeq (tFor (iRng1 (tCons (tCB (rLen K) (tCons (tVar 1) tNil)) tNil)) (gName 2) (tIfS (tNot (tB (tCallO sp__law_so_ (tCons (tOp (rIxX K) (tVar 0) (tVar 2)) (tCons (tOp (rIxX K) (tVar 1) (tVar 2)) tNil))))) (tRet (tC (.bl false))) tNext))
    (tRet (tC (.bl true))))) tNext)
    (tSeq (tIfS (tOr (tB (tCB (rIsi K) (tCons (tVar 1) (tCons (tC (.ty "bool")) tNil)))) (tB (tCB (rIsi K) (tCons (tVar 0) (tCons (tC (.ty "bool")) tNil))))) (tRet (tAndV (tCB (rIsi K) (tCons (tVar 1) (tCons (tC (.ty "bool")) tNil))) (tAndV (tCB (rIsi K) (tCons (tVar 0) (tCons (tC (.ty "bool")) tNil))) (tOp (rEqX K) (tVar 0) (tVar 1))))) tNext)
    (tSeq (tIfS (tB (tCB (rIsi K) (tCons (tVar 1) (tCons (tC (.ty "int")) tNil)))) (tRet (tAndV (tCB (rIsi K) (tCons (tVar 0) (tCons (tC (.ty "int")) tNil))) (tOp (rEqX K) (tVar 0) (tVar 1)))) tNext)
    (tRet (tAndV (tCB (rIsi K) (tCons (tVar 1) (tCons (tC (.ty "str")) tNil))) (tAndV (tCB (rIsi K) (tCons (tVar 0) (tCons (tC (.ty "str")) tNil))) (tOp (rEqX K) (tVar 0) (tVar 1)))))))))
theorem d__law_so {sp__law_so_ : Sp} {E : XK} {f : Addr} {A : Around} {outer : List Env} {s : Shared} {H : Hp} {cdv : Value} {k_ : Nat} (hr : Room k_ (A.deeper (PyProof.Rows.envOfC "_law_so" (defScope s__law_so) s.heap.objs.size f cdv))) (T : Txt K mg C_BadValue fI_BadValue) (O__law_so : Ok P w K mg base k_ "_law_so" ["found", "meant"] sp__law_so_) :
    PSs (cxOf CX0 P w K mg base N__law_so "_law_so" (defScope s__law_so) f cdv A outer s H E).nox (defBody s__law_so) (t__law_so K sp__law_so_) :=
  (pss_cons (ps_if (pt_cmpR o_isN (pv 1) pe_non (nomark _)) (pss_one (ps_ret (pe_cmpR o_isN (pv 0) pe_non (nomark _)))) pss_nil)
    (pss_cons (ps_if (pt_val (pe_callB call_isi (by rfl) T.b_isinstance (by decide +kernel) (pa_cons (pv 1) (pa_cons (pe_bltn (v := .ty "tuple") (by rfl) T.b_tuple (by decide +kernel) rfl) pa_nil)))) (pss_cons (ps_if (PW.pt (pw_or (pt_not (pt_val (pe_callB call_isi (by rfl) T.b_isinstance (by decide +kernel) (pa_cons (pv 0) (pa_cons (pe_bltn (v := .ty "tuple") (by rfl) T.b_tuple (by decide +kernel) rfl) pa_nil))))) (pw_or1 (pt_cmpR (op_neX hr.units) (pe_callB c_len (by rfl) T.b_len (by decide +kernel) (pa_cons (pv 0) pa_nil)) (pe_callB c_len (by rfl) T.b_len (by decide +kernel) (pa_cons (pv 1) pa_nil)) (nomark _))))) (pss_one (ps_ret pe_bl)) pss_nil)
    (pss_cons (ps_for PassesOwn.never rfl (pi_range1 (by rfl) T.b_range (pa_cons (pe_callB c_len (by rfl) T.b_len (by decide +kernel) (pa_cons (pv 1) pa_nil)) pa_nil)) (pg_name (i := 2) sc__law_so.nd rfl (Or.inl rfl)) (pss_one (ps_if (pt_not (pt_val (pe_cO O__law_so hr rfl (pa_cons (pe_ix ix_X (pv 0) (pv 2) (fun _ _ => rfl)) (pa_cons (pe_ix ix_X (pv 1) (pv 2) (fun _ _ => rfl)) pa_nil))))) (pss_one (ps_ret pe_bl)) pss_nil)))
    (pss_one (ps_ret pe_bl)))) pss_nil)
    (pss_cons (ps_if (PW.pt (pw_or (pt_val (pe_callB call_isi (by rfl) T.b_isinstance (by decide +kernel) (pa_cons (pv 1) (pa_cons (pe_bltn (v := .ty "bool") (by rfl) T.b_bool (by decide +kernel) rfl) pa_nil)))) (pw_or1 (pt_val (pe_callB call_isi (by rfl) T.b_isinstance (by decide +kernel) (pa_cons (pv 0) (pa_cons (pe_bltn (v := .ty "bool") (by rfl) T.b_bool (by decide +kernel) rfl) pa_nil))))))) (pss_one (ps_ret (pe_and (pe_callB call_isi (by rfl) T.b_isinstance (by decide +kernel) (pa_cons (pv 1) (pa_cons (pe_bltn (v := .ty "bool") (by rfl) T.b_bool (by decide +kernel) rfl) pa_nil))) (pe_and (pe_callB call_isi (by rfl) T.b_isinstance (by decide +kernel) (pa_cons (pv 0) (pa_cons (pe_bltn (v := .ty "bool") (by rfl) T.b_bool (by decide +kernel) rfl) pa_nil))) (pe_one (pe_cmpR (op_eqX hr.units) (pv 0) (pv 1) (nomark _))))))) pss_nil)
    (pss_cons (ps_if (pt_val (pe_callB call_isi (by rfl) T.b_isinstance (by decide +kernel) (pa_cons (pv 1) (pa_cons (pe_bltn (v := .ty "int") (by rfl) T.b_int (by decide +kernel) rfl) pa_nil)))) (pss_one (ps_ret (pe_and (pe_callB call_isi (by rfl) T.b_isinstance (by decide +kernel) (pa_cons (pv 0) (pa_cons (pe_bltn (v := .ty "int") (by rfl) T.b_int (by decide +kernel) rfl) pa_nil))) (pe_one (pe_cmpR (op_eqX hr.units) (pv 0) (pv 1) (nomark _)))))) pss_nil)
    (pss_one (ps_ret (pe_and (pe_callB call_isi (by rfl) T.b_isinstance (by decide +kernel) (pa_cons (pv 1) (pa_cons (pe_bltn (v := .ty "str") (by rfl) T.b_str (by decide +kernel) rfl) pa_nil))) (pe_and (pe_callB call_isi (by rfl) T.b_isinstance (by decide +kernel) (pa_cons (pv 0) (pa_cons (pe_bltn (v := .ty "str") (by rfl) T.b_str (by decide +kernel) rfl) pa_nil))) (pe_one (pe_cmpR (op_eqX hr.units) (pv 0) (pv 1) (nomark _)))))))))))

def t__law_numbers (K : PySem.W.Frag) : TS := (tSeq (tAsg (tLst tNil) (gName 1))
    (tSeq (tFor (iX K (tSl (rSlX K) (tVar 0) tNoPart (tPart (tC (.int 63))))) (gName 2) (tIfS (tTest (tOp rGe (tVar 2) (tOp rPow (tC (.int 10)) (tC (.int 18))))) (tSeq (tAsg (tVar 2) (gName 3))
    (tFor (iRng1 (tCons (tC (.int 60)) tNil)) (gName 4) (tSeq (tIfS (tTest (tOp (rEqX K) (tVar 3) (tC (.int 0)))) tBreak tNext)
    (tSeq (tDrop (tBM K "list" rAppend (tVar 1) (tCons (tOp rModI (tCB rIntO (tCons (tVar 3) tNil)) (tC (.int 997))) tNil)))
    (tAsg (tOp rFdv (tVar 3) (tC (.int 997))) (gName 3)))))) (tFor (iRng1 (tCons (tC (.int 4)) tNil)) (gName 4) (tSeq (tAsg (tOp rModI (tCB rIntO (tCons (tOp (rAddX K) (tOp (rAddX K) (tOp (rMulX K) (tVar 2) (tC (.int 48271))) (tOp (rMulX K) (tVar 4) (tC (.int 69621)))) (tC (.int 11))) tNil)) (tC (.int 2147483647))) (gName 5))
    (tDrop (tBM K "list" rAppend (tVar 1) (tCons (tOp rModI (tCB rIntO (tCons (tOp (rAddX K) (tOp (rMulX K) (tVar 5) (tC (.int 16807))) (tVar 4)) tNil)) (tC (.int 2147483629))) tNil)))))))
    (tCut (tIfS (tTest (tOp (rEqX K) (tCB (rLen K) (tCons (tVar 1) tNil)) (tC (.int 0)))) (tDrop (tBM K "list" rAppend (tVar 1) (tCons (tC (.int 0)) tNil))) tNext)
    (tRet (tVar 1)))))
theorem d__law_numbers {E : XK} {f : Addr} {A : Around} {outer : List Env} {s : Shared} {H : Hp} {cdv : Value} (hr : Room 0 (A.deeper (PyProof.Rows.envOfC "_law_numbers" (defScope s__law_numbers) s.heap.objs.size f cdv))) (T : Txt K mg C_BadValue fI_BadValue)  :
    PSs (cxOf CX0 P w K mg base N__law_numbers "_law_numbers" (defScope s__law_numbers) f cdv A outer s H E).nox (defBody s__law_numbers) (t__law_numbers K) :=
  (pss_cons (ps_set (i := 1) sc__law_numbers.nd rfl (Or.inl rfl) (pe_lst pa_nil))
    (pss_cons (ps_for PassesOwn.never rfl (pi_X (pe_slice sl_X (pv 0) po_none (po_some pe_int))) (pg_name (i := 2) sc__law_numbers.nd rfl (Or.inl rfl)) (pss_one (ps_if (pt_cmpR o_ge (pv 2) (pe_op o_pow pe_int pe_int) (nomark _)) (pss_cons (ps_set (i := 3) sc__law_numbers.nd rfl (Or.inl rfl) (pv 2))
    (pss_one (ps_for PassesOwn.never rfl (pi_range1 (by rfl) T.b_range (pa_cons pe_int pa_nil)) (pg_name (i := 4) sc__law_numbers.nd rfl (Or.inl rfl)) (pss_cons (ps_if (pt_cmpR (op_eqX hr.units) (pv 3) pe_int (nomark _)) (pss_one ps_break) pss_nil)
    (pss_cons (ps_expr (pe_bm PySem.F.plainAttrs_list PySem.F.slot_list_append PySem.F.type_list_append mt_append (pv 1) (pa_cons (pe_op o_mod (pe_callTy c_int (by rfl) T.b_int (by decide +kernel) (pa_cons (pv 3) pa_nil)) pe_int) pa_nil)))
    (pss_one (ps_set (i := 3) sc__law_numbers.nd rfl (Or.inl rfl) (pe_op o_fdiv (pv 3) pe_int)))))))) (pss_one (ps_for PassesOwn.never rfl (pi_range1 (by rfl) T.b_range (pa_cons pe_int pa_nil)) (pg_name (i := 4) sc__law_numbers.nd rfl (Or.inl rfl)) (pss_cons (ps_set (i := 5) sc__law_numbers.nd rfl (Or.inl rfl) (pe_op o_mod (pe_callTy c_int (by rfl) T.b_int (by decide +kernel) (pa_cons (pe_op op_addX (pe_op op_addX (pe_op op_mulX (pv 2) pe_int) (pe_op op_mulX (pv 4) pe_int)) pe_int) pa_nil)) pe_int))
    (pss_one (ps_expr (pe_bm PySem.F.plainAttrs_list PySem.F.slot_list_append PySem.F.type_list_append mt_append (pv 1) (pa_cons (pe_op o_mod (pe_callTy c_int (by rfl) T.b_int (by decide +kernel) (pa_cons (pe_op op_addX (pe_op op_mulX (pv 5) pe_int) (pv 4)) pa_nil)) pe_int) pa_nil))))))))))
    (pss_cut (ps_if (pt_cmpR (op_eqX hr.units) (pe_callB c_len (by rfl) T.b_len (by decide +kernel) (pa_cons (pv 1) pa_nil)) pe_int (nomark _)) (pss_one (ps_expr (pe_bm PySem.F.plainAttrs_list PySem.F.slot_list_append PySem.F.type_list_append mt_append (pv 1) (pa_cons pe_int pa_nil)))) pss_nil)
    (pss_one (ps_ret (pv 1))))))

def t__law_draw (K : PySem.W.Frag) : TS := (tSeq (tIfS (tTest (tOp rLt (tVar 1) (tCB (rLen K) (tCons (tVar 0) tNil)))) (tRet (tOp rModI (tCB rIntO (tCons (tOp (rIxX K) (tVar 0) (tVar 1)) tNil)) (tVar 2))) tNext)
    (tSeq (tAsg (tOp rModI (tCB rIntO (tCons (tOp (rAddX K) (tOp (rAddX K) (tOp (rMulX K) (tOp (rIxX K) (tVar 0) (tOp rModI (tCB rIntO (tCons (tVar 1) tNil)) (tCB (rLen K) (tCons (tVar 0) tNil)))) (tC (.int 40692))) (tOp (rMulX K) (tVar 1) (tC (.int 7919)))) (tC (.int 3))) tNil)) (tC (.int 2147483399))) (gName 3))
    (tRet (tOp rModI (tCB rIntO (tCons (tOp rModI (tCB rIntO (tCons (tOp (rAddX K) (tOp (rMulX K) (tVar 3) (tC (.int 48271))) (tVar 1)) tNil)) (tC (.int 2147483647))) tNil)) (tVar 2)))))
theorem d__law_draw {E : XK} {f : Addr} {A : Around} {outer : List Env} {s : Shared} {H : Hp} {cdv : Value} (hr : Room 0 (A.deeper (PyProof.Rows.envOfC "_law_draw" (defScope s__law_draw) s.heap.objs.size f cdv))) (T : Txt K mg C_BadValue fI_BadValue)  :
    PSs (cxOf CX0 P w K mg base N__law_draw "_law_draw" (defScope s__law_draw) f cdv A outer s H E).nox (defBody s__law_draw) (t__law_draw K) :=
  (pss_cons (ps_if (pt_cmpR o_lt (pv 1) (pe_callB c_len (by rfl) T.b_len (by decide +kernel) (pa_cons (pv 0) pa_nil)) (nomark _)) (pss_one (ps_ret (pe_op o_mod (pe_callTy c_int (by rfl) T.b_int (by decide +kernel) (pa_cons (pe_ix ix_X (pv 0) (pv 1) (fun _ _ => rfl)) pa_nil)) (pv 2)))) pss_nil)
    (pss_cons (ps_set (i := 3) sc__law_draw.nd rfl (Or.inl rfl) (pe_op o_mod (pe_callTy c_int (by rfl) T.b_int (by decide +kernel) (pa_cons (pe_op op_addX (pe_op op_addX (pe_op op_mulX (pe_ix ix_X (pv 0) (pe_op o_mod (pe_callTy c_int (by rfl) T.b_int (by decide +kernel) (pa_cons (pv 1) pa_nil)) (pe_callB c_len (by rfl) T.b_len (by decide +kernel) (pa_cons (pv 0) pa_nil))) (fun _ _ => rfl)) pe_int) (pe_op op_mulX (pv 1) pe_int)) pe_int) pa_nil)) pe_int))
    (pss_one (ps_ret (pe_op o_mod (pe_callTy c_int (by rfl) T.b_int (by decide +kernel) (pa_cons (pe_op o_mod (pe_callTy c_int (by rfl) T.b_int (by decide +kernel) (pa_cons (pe_op op_addX (pe_op op_mulX (pv 3) pe_int) (pv 1)) pa_nil)) pe_int) pa_nil)) (pv 2))))))

def t__law_take (K : PySem.W.Frag) (sp__law_draw_ : Sp) : TS := (tSeq (tAsg (tOp (rAddX K) (tOp (rIxX K) (tVar 1) (tC (.int 0))) (tC (.int 1))) (gSub (tVar 1) (tC (.int 0)) rSetL))
    (tRet (tCallO sp__law_draw_ (tCons (tVar 0) (tCons (tOp rSub (tOp (rIxX K) (tVar 1) (tC (.int 0))) (tC (.int 1))) (tCons (tVar 2) tNil))))))
theorem d__law_take {sp__law_draw_ : Sp} {E : XK} {f : Addr} {A : Around} {outer : List Env} {s : Shared} {H : Hp} {cdv : Value} (hr : Room 1 (A.deeper (PyProof.Rows.envOfC "_law_take" (defScope s__law_take) s.heap.objs.size f cdv))) (T : Txt K mg C_BadValue fI_BadValue) (O__law_draw : Ok P w K mg base 1 "_law_draw" ["row", "at", "limit"] sp__law_draw_) :
    PSs (cxOf CX0 P w K mg base N__law_take "_law_take" (defScope s__law_take) f cdv A outer s H E).nox (defBody s__law_take) (t__law_take K sp__law_draw_) :=
  (pss_cons (ps_asg (pe_op op_addX (pe_ix ix_X (pv 1) pe_int (fun _ _ => rfl)) pe_int) (pg_sub (pv 1) pe_int set_list))
    (pss_one (ps_ret (pe_cO O__law_draw (hr.mono (by decide)) rfl (pa_cons (pv 0) (pa_cons (pe_op o_sub (pe_ix ix_X (pv 1) pe_int (fun _ _ => rfl)) pe_int) (pa_cons (pv 2) pa_nil)))))))

def t__law_wide (K : PySem.W.Frag) (sp__law_take_ : Sp) : TS := (tSeq (tAsg (tCallO sp__law_take_ (tCons (tVar 0) (tCons (tVar 1) (tCons (tC (.int 997)) tNil)))) (gName 3))
    (tSeq (tAsg (tCallO sp__law_take_ (tCons (tVar 0) (tCons (tVar 1) (tCons (tC (.int 997)) tNil)))) (gName 4))
    (tSeq (tAsg (tCallO sp__law_take_ (tCons (tVar 0) (tCons (tVar 1) (tCons (tC (.int 997)) tNil)))) (gName 5))
    (tRet (tOp rModI (tCB rIntO (tCons (tOp (rAddX K) (tOp (rAddX K) (tOp (rMulX K) (tVar 3) (tC (.int 994009))) (tOp (rMulX K) (tVar 4) (tC (.int 997)))) (tVar 5)) tNil)) (tVar 2))))))
theorem d__law_wide {sp__law_take_ : Sp} {E : XK} {f : Addr} {A : Around} {outer : List Env} {s : Shared} {H : Hp} {cdv : Value} (hr : Room 2 (A.deeper (PyProof.Rows.envOfC "_law_wide" (defScope s__law_wide) s.heap.objs.size f cdv))) (T : Txt K mg C_BadValue fI_BadValue) (O__law_take : Ok P w K mg base 2 "_law_take" ["row", "spot", "limit"] sp__law_take_) :
    PSs (cxOf CX0 P w K mg base N__law_wide "_law_wide" (defScope s__law_wide) f cdv A outer s H E).nox (defBody s__law_wide) (t__law_wide K sp__law_take_) :=
  (pss_cons (ps_set (i := 3) sc__law_wide.nd rfl (Or.inl rfl) (pe_cO O__law_take (hr.mono (by decide)) rfl (pa_cons (pv 0) (pa_cons (pv 1) (pa_cons pe_int pa_nil)))))
    (pss_cons (ps_set (i := 4) sc__law_wide.nd rfl (Or.inl rfl) (pe_cO O__law_take (hr.mono (by decide)) rfl (pa_cons (pv 0) (pa_cons (pv 1) (pa_cons pe_int pa_nil)))))
    (pss_cons (ps_set (i := 5) sc__law_wide.nd rfl (Or.inl rfl) (pe_cO O__law_take (hr.mono (by decide)) rfl (pa_cons (pv 0) (pa_cons (pv 1) (pa_cons pe_int pa_nil)))))
    (pss_one (ps_ret (pe_op o_mod (pe_callTy c_int (by rfl) T.b_int (by decide +kernel) (pa_cons (pe_op op_addX (pe_op op_addX (pe_op op_mulX (pv 3) pe_int) (pe_op op_mulX (pv 4) pe_int)) (pv 5)) pa_nil)) (pv 2)))))))

def t__law_listed (K : PySem.W.Frag) (sp__law_listed_ : Sp) : TS := (tSeq (tIfS (tB (tCB (rIsi K) (tCons (tVar 0) (tCons (tC (.ty "tuple")) tNil)))) (tRet (tLc (iX K (tVar 0)) (gName 1) tYes (tCallO sp__law_listed_ (tCons (tVar 1) tNil)) [1])) tNext)
    (tRet (tVar 0)))
theorem d__law_listed {sp__law_listed_ : Sp} {E : XK} {f : Addr} {A : Around} {outer : List Env} {s : Shared} {H : Hp} {cdv : Value} {k_ : Nat} (hr : Room k_ (A.deeper (PyProof.Rows.envOfC "_law_listed" (defScope s__law_listed) s.heap.objs.size f cdv))) (T : Txt K mg C_BadValue fI_BadValue) (O__law_listed : Ok P w K mg base k_ "_law_listed" ["value"] sp__law_listed_) :
    PSs (cxOf CX0 P w K mg base N__law_listed "_law_listed" (defScope s__law_listed) f cdv A outer s H E).nox (defBody s__law_listed) (t__law_listed K sp__law_listed_) :=
  (pss_cons (ps_if (pt_val (pe_callB call_isi (by rfl) T.b_isinstance (by decide +kernel) (pa_cons (pv 0) (pa_cons (pe_bltn (v := .ty "tuple") (by rfl) T.b_tuple (by decide +kernel) rfl) pa_nil)))) (pss_one (ps_ret (pe_lc (own := [("one", 1)]) (g := (gName 1)) (tt := tYes) (te := (tCallO sp__law_listed_ (tCons (tVar 1) tNil))) rfl sc__law_listed.nd (pi_X (pv 0)) (blkOk_by (N := N__law_listed) (sc := defScope s__law_listed) (own := [("one", 1)]) (by decide +kernel)) (fun _ _ _ _ _ => (pg_name (i := 1) sc__law_listed.nd rfl (Or.inl rfl))) (fun _ _ _ _ _ => pts_nil) (fun _ _ _ _ _ => (pe_cO O__law_listed hr rfl (pa_cons (pv 1) pa_nil)))))) pss_nil)
    (pss_one (ps_ret (pv 0))))

def t__law_handed (K : PySem.W.Frag) (sp__law_listed_ : Sp) (sp__law_take_ : Sp) : TS := (tRet (tIf (tTest (tOp (rEqX K) (tCallO sp__law_take_ (tCons (tVar 0) (tCons (tVar 1) (tCons (tC (.int 2)) tNil)))) (tC (.int 0)))) (tCallO sp__law_listed_ (tCons (tVar 2) tNil)) (tVar 2)))
theorem d__law_handed {sp__law_listed_ : Sp} {sp__law_take_ : Sp} {E : XK} {f : Addr} {A : Around} {outer : List Env} {s : Shared} {H : Hp} {cdv : Value} (hr : Room 3 (A.deeper (PyProof.Rows.envOfC "_law_handed" (defScope s__law_handed) s.heap.objs.size f cdv))) (T : Txt K mg C_BadValue fI_BadValue) (O__law_listed : Ok P w K mg base 3 "_law_listed" ["value"] sp__law_listed_) (O__law_take : Ok P w K mg base 2 "_law_take" ["row", "spot", "limit"] sp__law_take_) :
    PSs (cxOf CX0 P w K mg base N__law_handed "_law_handed" (defScope s__law_handed) f cdv A outer s H E).nox (defBody s__law_handed) (t__law_handed K sp__law_listed_ sp__law_take_) :=
  (pss_one (ps_ret (pe_ifExp (pt_cmpR (op_eqX hr.units) (pe_cO O__law_take (hr.mono (by decide)) rfl (pa_cons (pv 0) (pa_cons (pv 1) (pa_cons pe_int pa_nil)))) pe_int (nomark _)) (pe_cO O__law_listed (hr.mono (by decide)) rfl (pa_cons (pv 2) pa_nil)) (pv 2))))

def t__law_less (K : PySem.W.Frag) : TS := (tRet (tOp rLt (tOp (rMulX K) (tOp (rIxX K) (tVar 0) (tC (.int 0))) (tOp (rIxX K) (tVar 1) (tC (.int 1)))) (tOp (rMulX K) (tOp (rIxX K) (tVar 1) (tC (.int 0))) (tOp (rIxX K) (tVar 0) (tC (.int 1))))))
theorem d__law_less {E : XK} {f : Addr} {A : Around} {outer : List Env} {s : Shared} {H : Hp} {cdv : Value} (hr : Room 0 (A.deeper (PyProof.Rows.envOfC "_law_less" (defScope s__law_less) s.heap.objs.size f cdv))) (T : Txt K mg C_BadValue fI_BadValue)  :
    PSs (cxOf CX0 P w K mg base N__law_less "_law_less" (defScope s__law_less) f cdv A outer s H E).nox (defBody s__law_less) (t__law_less K) :=
  (pss_one (ps_ret (pe_cmpR o_lt (pe_op op_mulX (pe_ix ix_X (pv 0) pe_int (fun _ _ => rfl)) (pe_ix ix_X (pv 1) pe_int (fun _ _ => rfl))) (pe_op op_mulX (pe_ix ix_X (pv 1) pe_int (fun _ _ => rfl)) (pe_ix ix_X (pv 0) pe_int (fun _ _ => rfl))) (nomark _))))

def t__law_lowest (K : PySem.W.Frag) : TS := (tSeq (tAsg (tCB rAbs (tCons (tOp (rIxX K) (tVar 0) (tC (.int 0))) tNil)) (gName 1))
    (tSeq (tAsg (tOp (rIxX K) (tVar 0) (tC (.int 1))) (gName 2))
    (tCut (tFor (iRng1 (tCons (tC (.int 90)) tNil)) (gName 3) (tSeq (tIfS (tTest (tOp (rEqX K) (tVar 2) (tC (.int 0)))) tBreak tNext)
    (tSeq (tAsg (tOp rSub (tVar 1) (tOp (rMulX K) (tOp rFdv (tVar 1) (tVar 2)) (tVar 2))) (gName 4))
    (tSeq (tAsg (tVar 2) (gName 1))
    (tAsg (tVar 4) (gName 2))))))
    (tRet (tTup (tCons (tOp rFdv (tOp (rIxX K) (tVar 0) (tC (.int 0))) (tVar 1)) (tCons (tOp rFdv (tOp (rIxX K) (tVar 0) (tC (.int 1))) (tVar 1)) tNil)))))))
theorem d__law_lowest {E : XK} {f : Addr} {A : Around} {outer : List Env} {s : Shared} {H : Hp} {cdv : Value} (hr : Room 0 (A.deeper (PyProof.Rows.envOfC "_law_lowest" (defScope s__law_lowest) s.heap.objs.size f cdv))) (T : Txt K mg C_BadValue fI_BadValue)  :
    PSs (cxOf CX0 P w K mg base N__law_lowest "_law_lowest" (defScope s__law_lowest) f cdv A outer s H E).nox (defBody s__law_lowest) (t__law_lowest K) :=
  (pss_cons (ps_set (i := 1) sc__law_lowest.nd rfl (Or.inl rfl) (pe_callB c_abs (by rfl) T.b_abs (by decide +kernel) (pa_cons (pe_ix ix_X (pv 0) pe_int (fun _ _ => rfl)) pa_nil)))
    (pss_cons (ps_set (i := 2) sc__law_lowest.nd rfl (Or.inl rfl) (pe_ix ix_X (pv 0) pe_int (fun _ _ => rfl)))
    (pss_cut (ps_for PassesOwn.never rfl (pi_range1 (by rfl) T.b_range (pa_cons pe_int pa_nil)) (pg_name (i := 3) sc__law_lowest.nd rfl (Or.inl rfl)) (pss_cons (ps_if (pt_cmpR (op_eqX hr.units) (pv 2) pe_int (nomark _)) (pss_one ps_break) pss_nil)
    (pss_cons (ps_set (i := 4) sc__law_lowest.nd rfl (Or.inl rfl) (pe_op o_sub (pv 1) (pe_op op_mulX (pe_op o_fdiv (pv 1) (pv 2)) (pv 2))))
    (pss_cons (ps_set (i := 1) sc__law_lowest.nd rfl (Or.inl rfl) (pv 2))
    (pss_one (ps_set (i := 2) sc__law_lowest.nd rfl (Or.inl rfl) (pv 4)))))))
    (pss_one (ps_ret (pe_tup (pa_cons (pe_op o_fdiv (pe_ix ix_X (pv 0) pe_int (fun _ _ => rfl)) (pv 1)) (pa_cons (pe_op o_fdiv (pe_ix ix_X (pv 0) pe_int (fun _ _ => rfl)) (pv 1)) pa_nil))))))))

def t__law_made (K : PySem.W.Frag) (C_BadValue : Addr) (sp_fraction_of_ : Sp) : TS := (tTry K C_BadValue 2 (fun W => (tRet (tCallSK 0 2 sp_fraction_of_ [1, 0] (WE W) tNil (tCons (tVar 1) (tCons (tVar 0) tNil))))) (fun a cls d => (tRet (tTup (tCons (tC (.str "bad")) (tCons (Eat.tBy C_BadValue a cls d (tVar 2)) tNil))))) (fun _ _ _ _ => False))
theorem d__law_made {sp_fraction_of_ : Sp} {E : XK} {f : Addr} {A : Around} {outer : List Env} {s : Shared} {H : Hp} {cdv : Value} (hr : Room 3 (A.deeper (PyProof.Rows.envOfC "_law_made" (defScope s__law_made) s.heap.objs.size f cdv))) (T : Txt K mg C_BadValue fI_BadValue) (kb_fraction_of_0_bottom_top : OkXK P w K mg base 3 "fraction_of" ["top", "bottom"] sp_fraction_of_ 0 ["bottom", "top"] [1, 0]) :
    PSs (cxOf CX0 P w K mg base N__law_made "_law_made" (defScope s__law_made) f cdv A outer s H E).nox (defBody s__law_made) (t__law_made K C_BadValue sp_fraction_of_) :=
  (pss_one (ps_try_as (i := 2) (tb := fun W => (tRet (tCallSK 0 2 sp_fraction_of_ [1, 0] (WE W) tNil (tCons (tVar 1) (tCons (tVar 0) tNil))))) (ts := fun a cls d => (tRet (tTup (tCons (tC (.str "bad")) (tCons (Eat.tBy C_BadValue a cls d (tVar 2)) tNil))))) (Wout := fun _ _ _ _ => False) rfl rfl sc__law_made.nd rfl rfl ⟨rfl, by decide, Or.inl T.e_BadValue.gC⟩ takes0 (fun W pn xe tk _ => (pss_one (ps_ret (pe_cXSK0 kb_fraction_of_0_bottom_top (hr.mono (by decide)) rfl tk (pk_cons (pv 1) (pk_cons (pv 0) pk_nil)))))) (fun a oe cls d pn hz hf => (pss_one (ps_ret (pe_tup (pa_cons pe_str (pa_cons (Eat.pe_by T.e_BadValue hz hf (pv 2)) pa_nil))))))))

def t__law_integer (K : PySem.W.Frag) (sp__law_take_ : Sp) (sp__law_wide_ : Sp) : TS := (tSeq (tAsg (tOp rSub (tCallO sp__law_take_ (tCons (tVar 0) (tCons (tVar 1) (tCons (tC (.int 25)) tNil)))) (tC (.int 12))) (gName 2))
    (tSeq (tAsg (tOp rSub (tOp (rMulX K) (tCallO sp__law_wide_ (tCons (tVar 0) (tCons (tVar 1) (tCons (tC (.int 991026973)) tNil)))) (tOp (rAddX K) (tC (.int 1)) (tCallO sp__law_take_ (tCons (tVar 0) (tCons (tVar 1) (tCons (tC (.int 997)) tNil)))))) (tOp rPow (tC (.int 10)) (tC (.int 11)))) (gName 3))
    (tRet (tOp (rIxX K) (tLst (tCons (tVar 2) (tCons (tVar 2) (tCons (tVar 3) (tCons (tOp (rMulX K) (tC (.int 6)) (tVar 2)) (tCons (tOp rPow (tC (.int 10)) (tC (.int 12))) (tCons (tUn rNeg (tOp rPow (tC (.int 10)) (tC (.int 12)))) tNil))))))) (tCallO sp__law_take_ (tCons (tVar 0) (tCons (tVar 1) (tCons (tC (.int 6)) tNil))))))))
theorem d__law_integer {sp__law_take_ : Sp} {sp__law_wide_ : Sp} {E : XK} {f : Addr} {A : Around} {outer : List Env} {s : Shared} {H : Hp} {cdv : Value} (hr : Room 3 (A.deeper (PyProof.Rows.envOfC "_law_integer" (defScope s__law_integer) s.heap.objs.size f cdv))) (T : Txt K mg C_BadValue fI_BadValue) (O__law_take : Ok P w K mg base 2 "_law_take" ["row", "spot", "limit"] sp__law_take_) (O__law_wide : Ok P w K mg base 3 "_law_wide" ["row", "spot", "limit"] sp__law_wide_) :
    PSs (cxOf CX0 P w K mg base N__law_integer "_law_integer" (defScope s__law_integer) f cdv A outer s H E).nox (defBody s__law_integer) (t__law_integer K sp__law_take_ sp__law_wide_) :=
  (pss_cons (ps_set (i := 2) sc__law_integer.nd rfl (Or.inl rfl) (pe_op o_sub (pe_cO O__law_take (hr.mono (by decide)) rfl (pa_cons (pv 0) (pa_cons (pv 1) (pa_cons pe_int pa_nil)))) pe_int))
    (pss_cons (ps_set (i := 3) sc__law_integer.nd rfl (Or.inl rfl) (pe_op o_sub (pe_op op_mulX (pe_cO O__law_wide (hr.mono (by decide)) rfl (pa_cons (pv 0) (pa_cons (pv 1) (pa_cons pe_int pa_nil)))) (pe_op op_addX pe_int (pe_cO O__law_take (hr.mono (by decide)) rfl (pa_cons (pv 0) (pa_cons (pv 1) (pa_cons pe_int pa_nil)))))) (pe_op o_pow pe_int pe_int)))
    (pss_one (ps_ret (pe_ix ix_X (pe_lst (pa_cons (pv 2) (pa_cons (pv 2) (pa_cons (pv 3) (pa_cons (pe_op op_mulX pe_int (pv 2)) (pa_cons (pe_op o_pow pe_int pe_int) (pa_cons (pe_un u_neg (pe_op o_pow pe_int pe_int)) pa_nil))))))) (pe_cO O__law_take (hr.mono (by decide)) rfl (pa_cons (pv 0) (pa_cons (pv 1) (pa_cons pe_int pa_nil)))) (fun _ _ => rfl))))))

def t_law (K : PySem.W.Frag) (sp__law_handed_ : Sp) (sp__law_integer_ : Sp) (sp__law_less_ : Sp) (sp__law_lowest_ : Sp) (sp__law_made_ : Sp) (sp__law_numbers_ : Sp) (sp__law_so_ : Sp) (sp__law_take_ : Sp) (sp_compare_moments_ : Sp) : TS := (tSeq (tAsg (tCallO sp__law_numbers_ (tCons (tVar 0) tNil)) (gName 1))
    (tSeq (tAsg (tLst (tCons (tC (.int 0)) tNil)) (gName 2))
    (tSeq (tAsg (tLst (tCons (tTup (tCons (tC (.int 0)) (tCons (tC (.int 1)) tNil))) tNil)) (gName 3))
    (tSeq (tFor (iRng1 (tCons (tC (.int 6)) tNil)) (gName 4) (tSeq (tAsg (tCallO sp__law_integer_ (tCons (tVar 1) (tCons (tVar 2) tNil))) (gName 5))
    (tSeq (tAsg (tCallO sp__law_integer_ (tCons (tVar 1) (tCons (tVar 2) tNil))) (gName 6))
    (tSeq (tAsg (tCallO sp__law_made_ (tCons (tVar 5) (tCons (tVar 6) tNil))) (gName 7))
    (tCut (tIfS (tTest (tOp (rEqX K) (tVar 6) (tC (.int 0)))) (tIfS (tNot (tB (tCallO sp__law_so_ (tCons (tVar 7) (tCons (tTup (tCons (tC (.str "bad")) (tCons (tC (.int 1)) tNil))) tNil))))) (tRet (tC (.bl false))) tNext) (tSeq (tAsg (tCallO sp__law_lowest_ (tCons (tTup (tCons (tIf (tTest (tOp rGt (tVar 6) (tC (.int 0)))) (tVar 5) (tUn rNeg (tVar 5))) (tCons (tCB rAbs (tCons (tVar 6) tNil)) tNil))) tNil)) (gName 8))
    (tSeq (tIfS (tNot (tB (tCallO sp__law_so_ (tCons (tVar 7) (tCons (tVar 8) tNil))))) (tRet (tC (.bl false))) tNext)
    (tDrop (tBM K "list" rAppend (tVar 3) (tCons (tVar 8) tNil))))))
    (tSeq (tAsg (tOp (rIxX K) (tLst (tCons (tC .non) (tCons (tC (.bl true)) (tCons (tC (.str "1")) (tCons (tTup (tCons (tC (.int 1)) tNil)) (tCons (tOp (rEqX K) (tC (.int 1)) (tC (.int 1))) tNil)))))) (tCallO sp__law_take_ (tCons (tVar 1) (tCons (tVar 2) (tCons (tC (.int 5)) tNil))))) (gName 9))
    (tSeq (tIfS (tOr (tNot (tB (tCallO sp__law_so_ (tCons (tCallO sp__law_made_ (tCons (tVar 9) (tCons (tC (.int 0)) tNil))) (tCons (tTup (tCons (tC (.str "bad")) (tCons (tC (.int 0)) tNil))) tNil))))) (tNot (tB (tCallO sp__law_so_ (tCons (tCallO sp__law_made_ (tCons (tVar 5) (tCons (tVar 9) tNil))) (tCons (tTup (tCons (tC (.str "bad")) (tCons (tC (.int 1)) tNil))) tNil)))))) (tRet (tC (.bl false))) tNext)
    (tSeq (tAsg (tOp (rIxX K) (tVar 3) (tCallO sp__law_take_ (tCons (tVar 1) (tCons (tVar 2) (tCons (tCB (rLen K) (tCons (tVar 3) tNil)) tNil))))) (gName 10))
    (tSeq (tAsg (tOp (rIxX K) (tVar 3) (tCallO sp__law_take_ (tCons (tVar 1) (tCons (tVar 2) (tCons (tCB (rLen K) (tCons (tVar 3) tNil)) tNil))))) (gName 11))
    (tCut (tAsg (tIf (tB (tCallO sp__law_less_ (tCons (tVar 10) (tCons (tVar 11) tNil)))) (tUn rNeg (tC (.int 1))) (tIf (tB (tCallO sp__law_less_ (tCons (tVar 11) (tCons (tVar 10) tNil)))) (tC (.int 1)) (tC (.int 0)))) (gName 8))
    (tSeq (tIfS (tNot (tB (tCallO sp__law_so_ (tCons (tCallOK 0 2 sp_compare_moments_ [1, 0] tNil (tCons (tVar 11) (tCons (tCallO sp__law_handed_ (tCons (tVar 1) (tCons (tVar 2) (tCons (tVar 10) tNil)))) tNil))) (tCons (tVar 8) tNil))))) (tRet (tC (.bl false))) tNext)
    (tIfS (tOr (tNot (tB (tCallO sp__law_so_ (tCons (tCallO sp_compare_moments_ (tCons (tVar 11) (tCons (tVar 10) tNil))) (tCons (tUn rNeg (tVar 8)) tNil))))) (tNot (tB (tCallO sp__law_so_ (tCons (tCallO sp_compare_moments_ (tCons (tVar 10) (tCons (tVar 10) tNil))) (tCons (tC (.int 0)) tNil)))))) (tRet (tC (.bl false))) tNext))))))))))))
    (tRet (tC (.bl true)))))))
theorem d_law {sp__law_handed_ : Sp} {sp__law_integer_ : Sp} {sp__law_less_ : Sp} {sp__law_lowest_ : Sp} {sp__law_made_ : Sp} {sp__law_numbers_ : Sp} {sp__law_so_ : Sp} {sp__law_take_ : Sp} {sp_compare_moments_ : Sp} {E : XK} {f : Addr} {A : Around} {outer : List Env} {s : Shared} {H : Hp} {cdv : Value} (hr : Room 4 (A.deeper (PyProof.Rows.envOfC "law" (defScope s_law) s.heap.objs.size f cdv))) (T : Txt K mg C_BadValue fI_BadValue) (O__law_handed : Ok P w K mg base 4 "_law_handed" ["row", "spot", "value"] sp__law_handed_) (O__law_integer : Ok P w K mg base 4 "_law_integer" ["row", "spot"] sp__law_integer_) (O__law_less : Ok P w K mg base 1 "_law_less" ["one", "other"] sp__law_less_) (O__law_lowest : Ok P w K mg base 1 "_law_lowest" ["part"] sp__law_lowest_) (O__law_made : Ok P w K mg base 4 "_law_made" ["top", "bottom"] sp__law_made_) (O__law_numbers : Ok P w K mg base 1 "_law_numbers" ["script"] sp__law_numbers_) (O__law_so : Ok P w K mg base 4 "_law_so" ["found", "meant"] sp__law_so_) (O__law_take : Ok P w K mg base 2 "_law_take" ["row", "spot", "limit"] sp__law_take_) (O_compare_moments : Ok P w K mg base 1 "compare_moments" ["one", "other"] sp_compare_moments_) (kb_compare_moments_0_other_one : OkK P w K mg base 1 "compare_moments" ["one", "other"] sp_compare_moments_ 0 ["other", "one"] [1, 0]) :
    PSs (cxOf CX0 P w K mg base N_law "law" (defScope s_law) f cdv A outer s H E).nox (defBody s_law) (t_law K sp__law_handed_ sp__law_integer_ sp__law_less_ sp__law_lowest_ sp__law_made_ sp__law_numbers_ sp__law_so_ sp__law_take_ sp_compare_moments_) :=
  (pss_cons (ps_set (i := 1) sc_law.nd rfl (Or.inl rfl) (pe_cO O__law_numbers (hr.mono (by decide)) rfl (pa_cons (pv 0) pa_nil)))
    (pss_cons (ps_set (i := 2) sc_law.nd rfl (Or.inl rfl) (pe_lst (pa_cons pe_int pa_nil)))
    (pss_cons (ps_set (i := 3) sc_law.nd rfl (Or.inl rfl) (pe_lst (pa_cons (pe_tup (pa_cons pe_int (pa_cons pe_int pa_nil))) pa_nil)))
    (pss_cons (ps_for PassesOwn.never rfl (pi_range1 (by rfl) T.b_range (pa_cons pe_int pa_nil)) (pg_name (i := 4) sc_law.nd rfl (Or.inl rfl)) (pss_cons (ps_set (i := 5) sc_law.nd rfl (Or.inl rfl) (pe_cO O__law_integer (hr.mono (by decide)) rfl (pa_cons (pv 1) (pa_cons (pv 2) pa_nil))))
    (pss_cons (ps_set (i := 6) sc_law.nd rfl (Or.inl rfl) (pe_cO O__law_integer (hr.mono (by decide)) rfl (pa_cons (pv 1) (pa_cons (pv 2) pa_nil))))
    (pss_cons (ps_set (i := 7) sc_law.nd rfl (Or.inl rfl) (pe_cO O__law_made (hr.mono (by decide)) rfl (pa_cons (pv 5) (pa_cons (pv 6) pa_nil))))
    (pss_cut (ps_if (pt_cmpR (op_eqX hr.units) (pv 6) pe_int (nomark _)) (pss_one (ps_if (pt_not (pt_val (pe_cO O__law_so (hr.mono (by decide)) rfl (pa_cons (pv 7) (pa_cons (pe_tup (pa_cons pe_str (pa_cons pe_int pa_nil))) pa_nil))))) (pss_one (ps_ret pe_bl)) pss_nil)) (pss_cons (ps_set (i := 8) sc_law.nd rfl (Or.inl rfl) (pe_cO O__law_lowest (hr.mono (by decide)) rfl (pa_cons (pe_tup (pa_cons (pe_ifExp (pt_cmpR o_gt (pv 6) pe_int (nomark _)) (pv 5) (pe_un u_neg (pv 5))) (pa_cons (pe_callB c_abs (by rfl) T.b_abs (by decide +kernel) (pa_cons (pv 6) pa_nil)) pa_nil))) pa_nil)))
    (pss_cons (ps_if (pt_not (pt_val (pe_cO O__law_so (hr.mono (by decide)) rfl (pa_cons (pv 7) (pa_cons (pv 8) pa_nil))))) (pss_one (ps_ret pe_bl)) pss_nil)
    (pss_one (ps_expr (pe_bm PySem.F.plainAttrs_list PySem.F.slot_list_append PySem.F.type_list_append mt_append (pv 3) (pa_cons (pv 8) pa_nil)))))))
    (pss_cons (ps_set (i := 9) sc_law.nd rfl (Or.inl rfl) (pe_ix ix_X (pe_lst (pa_cons pe_non (pa_cons pe_bl (pa_cons pe_str (pa_cons (pe_tup (pa_cons pe_int pa_nil)) (pa_cons (pe_cmpR (op_eqX hr.units) pe_int pe_int (nomark _)) pa_nil)))))) (pe_cO O__law_take (hr.mono (by decide)) rfl (pa_cons (pv 1) (pa_cons (pv 2) (pa_cons pe_int pa_nil)))) (fun _ _ => rfl)))
    (pss_cons (ps_if (PW.pt (pw_or (pt_not (pt_val (pe_cO O__law_so (hr.mono (by decide)) rfl (pa_cons (pe_cO O__law_made (hr.mono (by decide)) rfl (pa_cons (pv 9) (pa_cons pe_int pa_nil))) (pa_cons (pe_tup (pa_cons pe_str (pa_cons pe_int pa_nil))) pa_nil))))) (pw_or1 (pt_not (pt_val (pe_cO O__law_so (hr.mono (by decide)) rfl (pa_cons (pe_cO O__law_made (hr.mono (by decide)) rfl (pa_cons (pv 5) (pa_cons (pv 9) pa_nil))) (pa_cons (pe_tup (pa_cons pe_str (pa_cons pe_int pa_nil))) pa_nil)))))))) (pss_one (ps_ret pe_bl)) pss_nil)
    (pss_cons (ps_set (i := 10) sc_law.nd rfl (Or.inl rfl) (pe_ix ix_X (pv 3) (pe_cO O__law_take (hr.mono (by decide)) rfl (pa_cons (pv 1) (pa_cons (pv 2) (pa_cons (pe_callB c_len (by rfl) T.b_len (by decide +kernel) (pa_cons (pv 3) pa_nil)) pa_nil)))) (fun _ _ => rfl)))
    (pss_cons (ps_set (i := 11) sc_law.nd rfl (Or.inl rfl) (pe_ix ix_X (pv 3) (pe_cO O__law_take (hr.mono (by decide)) rfl (pa_cons (pv 1) (pa_cons (pv 2) (pa_cons (pe_callB c_len (by rfl) T.b_len (by decide +kernel) (pa_cons (pv 3) pa_nil)) pa_nil)))) (fun _ _ => rfl)))
    (pss_cut (ps_set (i := 8) sc_law.nd rfl (Or.inl rfl) (pe_ifExp (pt_val (pe_cO O__law_less (hr.mono (by decide)) rfl (pa_cons (pv 10) (pa_cons (pv 11) pa_nil)))) (pe_un u_neg pe_int) (pe_ifExp (pt_val (pe_cO O__law_less (hr.mono (by decide)) rfl (pa_cons (pv 11) (pa_cons (pv 10) pa_nil)))) pe_int pe_int)))
    (pss_cons (ps_if (pt_not (pt_val (pe_cO O__law_so (hr.mono (by decide)) rfl (pa_cons (pe_cK0 kb_compare_moments_0_other_one (hr.mono (by decide)) rfl (pk_cons (pv 11) (pk_cons (pe_cO O__law_handed (hr.mono (by decide)) rfl (pa_cons (pv 1) (pa_cons (pv 2) (pa_cons (pv 10) pa_nil)))) pk_nil))) (pa_cons (pv 8) pa_nil))))) (pss_one (ps_ret pe_bl)) pss_nil)
    (pss_one (ps_if (PW.pt (pw_or (pt_not (pt_val (pe_cO O__law_so (hr.mono (by decide)) rfl (pa_cons (pe_cO O_compare_moments (hr.mono (by decide)) rfl (pa_cons (pv 11) (pa_cons (pv 10) pa_nil))) (pa_cons (pe_un u_neg (pv 8)) pa_nil))))) (pw_or1 (pt_not (pt_val (pe_cO O__law_so (hr.mono (by decide)) rfl (pa_cons (pe_cO O_compare_moments (hr.mono (by decide)) rfl (pa_cons (pv 10) (pa_cons (pv 10) pa_nil))) (pa_cons pe_int pa_nil)))))))) (pss_one (ps_ret pe_bl)) pss_nil)))))))))))))
    (pss_one (ps_ret pe_bl))))))

/-! ### the law's own draws -/
def sp__law_draw : Sp := fun vs H Q _ => ∃ (p : Addr) (rs : List Int) (at_ lim : Int), vs = [.ref p, .int at_, .int lim] ∧ H p = some (.lst (rs.map V.int)) ∧ rs ≠ [] ∧ 0 ≤ at_ ∧ 0 < lim ∧ ∀ r, 0 ≤ r → r < lim → Q (.int r) H
theorem ok__law_draw {f : Addr} {fd : FuncData} (F : Fun K "_law_draw" "_law_draw" s__law_draw f fd) (T : Txt K mg C_BadValue fI_BadValue)  : FnOk P w K mg base CX0 1 f fd ["row", "at", "limit"] sp__law_draw := by
  refine F.ok sc__law_draw (fun vs H Q E h => ?_) (fun cdv A outer s H vs Q E hr h => ?_)
  · obtain ⟨p, rs, a, l, rfl, _⟩ := h
    rfl
  · obtain ⟨p, rs, a, l, rfl, hp, hne, ha, hl, k⟩ := h
    refine ⟨_, d__law_draw hr T , ?_⟩
    unfold t__law_draw
    have hpos : 0 < rs.length := List.length_pos_iff.mpr hne
    have hm : (rs.map V.int).length = rs.length := List.length_map ..
    refine x_start (σ' := [some (.ref p), some (.int a), some (.int l), none]) rfl ?_
    walk_at "sts"
    refine x_lenL hp ?_
    walk_at "sts"
    rw [hm]
    refine x_dec (fun h1 => ?_) (fun h1 => ?_)
    · walk_at "sts"
      have hj : a.toNat < rs.length := by omega
      refine x_ixL (v := .int rs[a.toNat]) hp (at_of (j := a.toNat) (by omega) (ints_at (List.getElem?_eq_getElem hj))) ?_
      walk_at "sts"
      refine x_mod hl ?_
      exact k _ (Int.emod_nonneg _ (by omega)) (Int.emod_lt_of_pos _ hl)
    · walk_at "sts"
      refine x_lenL hp ?_
      rw [hm]
      refine x_mod (by omega) ?_
      have h0 : 0 ≤ a % (rs.length : Int) := Int.emod_nonneg _ (by omega)
      have h2 : a % (rs.length : Int) < rs.length := Int.emod_lt_of_pos _ (by omega)
      have hj : (a % (rs.length : Int)).toNat < rs.length := by omega
      refine x_ixL (v := .int rs[(a % (rs.length : Int)).toNat]) hp (at_of (j := (a % (rs.length : Int)).toNat) (by omega) (ints_at (List.getElem?_eq_getElem hj))) ?_
      walk_at "sts"
      refine x_mulI (cmulR (by decide) (by decide)) ?_
      walk_at "sts"
      refine x_mulI (cmulR (by decide) (by decide)) ?_
      walk_at "sts"
      refine x_mod (by decide) ?_
      walk_at "sts"
      refine x_mulI (cmulR (by decide) (by decide)) ?_
      walk_at "sts"
      refine x_mod (by decide) ?_
      walk_at "sts"
      refine x_mod hl ?_
      exact k _ (Int.emod_nonneg _ (by omega)) (Int.emod_lt_of_pos _ hl)
theorem x_draw {p : Addr} {rs : List Int} {a l : Int} {H : Hp} {Q : VK} {E : XK} (hp : H p = some (.lst (rs.map V.int))) (hne : rs ≠ []) (ha : 0 ≤ a) (hl : 0 < l) (q : ∀ r, 0 ≤ r → r < l → Q (.int r) H) : sp__law_draw [.ref p, .int a, .int l] H Q E :=
  ⟨p, rs, a, l, rfl, hp, hne, ha, hl, q⟩
def sp__law_take : Sp := fun vs H Q _ => ∃ (row sp : Addr) (lim : Int), vs = [.ref row, .ref sp, .int lim] ∧ Wd H row sp ∧ 0 < lim ∧ ∀ r H', 0 ≤ r → r < lim → Kp [sp] H H' → Wd H' row sp → Q (.int r) H'
theorem x_take {row sp : Addr} {l : Int} {H : Hp} {Q : VK} {E : XK} (W : Wd H row sp) (hl : 0 < l) (q : ∀ r H', 0 ≤ r → r < l → Kp [sp] H H' → Wd H' row sp → Q (.int r) H') : sp__law_take [.ref row, .ref sp, .int l] H Q E :=
  ⟨row, sp, l, rfl, W, hl, q⟩
theorem ok__law_take {f : Addr} {fd : FuncData} (F : Fun K "_law_take" "_law_take" s__law_take f fd) (T : Txt K mg C_BadValue fI_BadValue) (O__law_draw : Ok P w K mg base 1 "_law_draw" ["row", "at", "limit"] (sp__law_draw)) : FnOk P w K mg base CX0 2 f fd ["row", "spot", "limit"] sp__law_take := by
  refine F.ok sc__law_take (fun vs H Q E h => ?_) (fun cdv A outer s H vs Q E hr h => ?_)
  · obtain ⟨p, rs, a, rfl, _⟩ := h
    rfl
  · obtain ⟨row, sp, l, rfl, W, hl, k⟩ := h
    obtain ⟨⟨s, rs, h0, hs, hrow, hne, hlen⟩, ne⟩ := id W
    refine ⟨_, d__law_take hr T O__law_draw, ?_⟩
    unfold t__law_take
    refine x_start (σ' := [some (.ref row), some (.ref sp), some (.int l)]) rfl ?_
    walk_at "sts"
    refine x_ixL hs (v := .int s) (by rfl) ?_
    walk_at "sts"
    refine x_setL hs (m := 0) (by rfl) ?_
    walk_at "sts"
    refine x_ixL upd_same (v := .int (s + 1)) (by rfl) ?_
    walk_at "sts"
    refine x_draw (upd_get' ne hrow) hne (by omega) hl fun r r0 r1 => ?_
    exact k r _ r0 r1 (Kp.refl.mut (List.mem_singleton.mpr rfl)) ⟨⟨s + 1, rs, by omega, upd_same, upd_get' ne hrow, hne, hlen⟩, ne⟩
def sp__law_wide : Sp := fun vs H Q _ => ∃ (row sp : Addr) (lim : Int), vs = [.ref row, .ref sp, .int lim] ∧ Wd H row sp ∧ 0 < lim ∧ ∀ r H', 0 ≤ r → r < lim → Kp [sp] H H' → Wd H' row sp → Q (.int r) H'
theorem x_wide {row sp : Addr} {l : Int} {H : Hp} {Q : VK} {E : XK} (W : Wd H row sp) (hl : 0 < l) (q : ∀ r H', 0 ≤ r → r < l → Kp [sp] H H' → Wd H' row sp → Q (.int r) H') : sp__law_wide [.ref row, .ref sp, .int l] H Q E :=
  ⟨row, sp, l, rfl, W, hl, q⟩
theorem ok__law_wide {f : Addr} {fd : FuncData} (F : Fun K "_law_wide" "_law_wide" s__law_wide f fd) (T : Txt K mg C_BadValue fI_BadValue) (O__law_take : Ok P w K mg base 2 "_law_take" ["row", "spot", "limit"] (sp__law_take)) : FnOk P w K mg base CX0 3 f fd ["row", "spot", "limit"] sp__law_wide := by
  refine F.ok sc__law_wide (fun vs H Q E h => ?_) (fun cdv A outer s H vs Q E hr h => ?_)
  · obtain ⟨p, rs, a, rfl, _⟩ := h
    rfl
  · obtain ⟨row, sp, l, rfl, W, hl, k⟩ := h
    refine ⟨_, d__law_wide hr T O__law_take, ?_⟩
    unfold t__law_wide
    refine x_start (σ' := [some (.ref row), some (.ref sp), some (.int l), none, none, none]) rfl ?_
    walk_at "sts"
    refine x_take W (by decide) fun r1 H1 a1 b1 k1 W1 => ?_
    walk_at "sts"
    refine x_take W1 (by decide) fun r2 H2 a2 b2 k2 W2 => ?_
    walk_at "sts"
    refine x_take W2 (by decide) fun r3 H3 a3 b3 k3 W3 => ?_
    walk_at "sts"
    refine x_mulI (cmulR (by decide) (by decide)) ?_
    walk_at "sts"
    refine x_mulI (cmulR (by decide) (by decide)) ?_
    walk_at "sts"
    refine x_mod hl ?_
    exact k _ _ (Int.emod_nonneg _ (by omega)) (Int.emod_lt_of_pos _ hl) ((k1.trans k2).trans k3) W3
theorem cut_map (ns : List Int) (lo hi : Option Int) : ∃ ms : List Int, cutV (ns.map V.int) lo hi = ms.map V.int ∧ ms.length ≤ ns.length := by
  refine ⟨(ns.drop (HT.sIx (ns.map V.int).length 0 lo)).take (HT.sIx (ns.map V.int).length (ns.map V.int).length hi - HT.sIx (ns.map V.int).length 0 lo), ?_, ?_⟩
  · unfold cutV
    rw [List.map_take, List.map_drop]
  · rw [List.length_take, List.length_drop]
    omega
def sp__law_numbers (K : PySem.W.Frag) : Sp := fun vs H Q _ => ∃ (a : Addr) (ns : List Int), vs = [.ref a] ∧ SqL K H a (ns.map V.int) ∧ ns.length ≤ 63 ∧ ∀ p H' (rs : List Int), Same H H' → H p = none → H' p = some (.lst (rs.map V.int)) → rs ≠ [] → rs.length ≤ 4000 → Q (.ref p) H'
theorem ok__law_numbers {f : Addr} {fd : FuncData} (F : Fun K "_law_numbers" "_law_numbers" s__law_numbers f fd) (T : Txt K mg C_BadValue fI_BadValue)  : FnOk P w K mg base CX0 1 f fd ["script"] (sp__law_numbers K) := by
  refine F.ok sc__law_numbers (fun vs H Q E h => ?_) (fun cdv A outer s H vs Q E hr h => ?_)
  · obtain ⟨a, ns, rfl, _⟩ := h
    rfl
  · obtain ⟨a, ns, rfl, ha, hl, k⟩ := h
    refine ⟨_, d__law_numbers hr T , ?_⟩
    unfold t__law_numbers
    refine x_start (σ' := [some (.ref a), none, none, none, none, none]) rfl ?_
    walk_at "sts"
    refine x_mkl rfl (by decide) fun p hp => ?_
    walk_at "sts"
    have s1 : Same H (upd H p (.lst [])) := Same.new (Same.refl H) hp
    refine x_slL (s1.seq ha) fun c hc => ?_
    obtain ⟨ms, em, lm⟩ := cut_map ns none (some 63)
    rw [em]
    have pc : p ≠ c := Ne.symm (new_ne hc upd_same)
    have s2 : Same H (upd (upd H p (.lst [])) c (.lst (ms.map V.int))) := Same.new s1 hc
    have hc0 : H c = none := Same.none s1 hc
    refine x_loopL (xs := ms.map V.int) (SqL.of upd_same) (fun i σ H' => ∃ (rs : List Int) (x2 x3 x4 x5 : Option V), σ = [some (.ref a), some (.ref p), x2, x3, x4, x5] ∧ Same H H' ∧ H' p = some (.lst (rs.map V.int)) ∧ rs.length ≤ 60 * i ∧ H' c = some (.lst (ms.map V.int))) ?_ ?_ ?_ ?_
    · exact ⟨[], none, none, none, none, rfl, s2, upd_get hc upd_same, by simp, upd_same⟩
    · rintro i σ H' _ ⟨rs, x2, x3, x4, x5, rfl, h1, h2, h3, h4⟩
      exact SqL.of h4
    · rintro i x σ H' hx ⟨rs, x2, x3, x4, x5, rfl, h1, h2, h3, h4⟩
      obtain ⟨z, hz, rfl⟩ : ∃ z, ms[i]? = some z ∧ x = V.int z := by
        rw [List.getElem?_map] at hx
        cases e : ms[i]? with
        | none => rw [e] at hx; cases hx
        | some z => rw [e] at hx; exact ⟨z, rfl, (Option.some.inj hx).symm⟩
      have hi : i < 63 := by
        have := (List.getElem?_eq_some_iff.mp hz).1
        omega
      walk_at "sts"
      refine x_pow (by decide) ?_
      walk_at "sts"
      refine x_dec (fun g1 => ?_) (fun g1 => ?_)
      · walk_at "sts"
        refine x_rng 60 (by decide) rfl ?_
        refine x_loopR (fun j σ H2 => ∃ (rs : List Int) (l : Int) (x4 x5 : Option V), σ = [some (.ref a), some (.ref p), some (.int z), some (.int l), x4, x5] ∧ Same H H2 ∧ H2 p = some (.lst (rs.map V.int)) ∧ rs.length ≤ 60 * i + j ∧ H2 c = some (.lst (ms.map V.int))) ?_ ?_ ?_
        · exact ⟨rs, z, x4, x5, rfl, h1, h2, by omega, h4⟩
        · rintro j σ H2 hj ⟨rs, l, x4, x5, rfl, h1, h2, h3, h4⟩
          walk_at "sts"
          refine x_dec (fun g2 => ?_) (fun g2 => ?_)
          · walk_at "sts"
            exact ⟨rs, _, _, _, _, rfl, h1, h2, by omega, h4⟩
          · walk_at "sts"
            refine x_bmL h2 ?_
            walk_at "sts"
            refine x_mod (by decide) ?_
            walk_at "sts"
            refine x_app h2 (szl (by rw [List.length_map]; omega)) ?_
            walk_at "sts"
            refine x_fdv (by decide) ?_
            walk_at "sts"
            rw [map_snoc]
            exact ⟨_, _, _, _, rfl, Same.own h1 hp, upd_same, by simp; omega, upd_get' (Ne.symm pc) h4⟩
        · rintro σ H2 ⟨rs, l, x4, x5, rfl, h1, h2, h3, h4⟩
          exact ⟨rs, _, _, _, _, rfl, h1, h2, by omega, h4⟩
      · walk_at "sts"
        refine x_rng 4 (by decide) rfl ?_
        refine x_loopR (fun j σ H2 => ∃ (rs : List Int) (x3 x4 x5 : Option V), σ = [some (.ref a), some (.ref p), some (.int z), x3, x4, x5] ∧ Same H H2 ∧ H2 p = some (.lst (rs.map V.int)) ∧ rs.length ≤ 60 * i + j ∧ H2 c = some (.lst (ms.map V.int))) ?_ ?_ ?_
        · exact ⟨rs, x3, x4, x5, rfl, h1, h2, by omega, h4⟩
        · rintro j σ H2 hj ⟨rs, x3, x4, x5, rfl, h1, h2, h3, h4⟩
          walk_at "sts"
          refine x_mulI (cmulR (by decide) (by decide)) ?_
          walk_at "sts"
          refine x_mulI (cmulR (by decide) (by decide)) ?_
          walk_at "sts"
          refine x_mod (by decide) ?_
          walk_at "sts"
          refine x_bmL h2 ?_
          walk_at "sts"
          refine x_mulI (cmulR (by decide) (by decide)) ?_
          walk_at "sts"
          refine x_mod (by decide) ?_
          walk_at "sts"
          refine x_app h2 (szl (by rw [List.length_map]; omega)) ?_
          walk_at "sts"
          rw [map_snoc]
          exact ⟨_, _, _, _, rfl, Same.own h1 hp, upd_same, by simp; omega, upd_get' (Ne.symm pc) h4⟩
        · rintro σ H2 ⟨rs, x3, x4, x5, rfl, h1, h2, h3, h4⟩
          exact ⟨rs, _, _, _, _, rfl, h1, h2, by omega, h4⟩
    · rintro σ H' ⟨rs, x2, x3, x4, x5, rfl, h1, h2, h3, h4⟩
      rw [List.length_map] at h3
      refine x_cut (fun σ2 H2 => ∃ (rs : List Int), σ2 = [some (.ref a), some (.ref p), x2, x3, x4, x5] ∧ Same H H2 ∧ H2 p = some (.lst (rs.map V.int)) ∧ rs ≠ [] ∧ rs.length ≤ 4000) ?_ ?_
      · walk_at "sts"
        refine x_lenL h2 ?_
        walk_at "sts"
        rw [List.length_map]
        refine x_dec (fun g => ?_) (fun g => ?_)
        · have e : rs = [] := List.length_eq_zero_iff.mp (by omega)
          subst e
          walk_at "sts"
          refine x_bmL h2 ?_
          walk_at "sts"
          refine x_app h2 (szl (by simp)) ?_
          walk_at "sts"
          exact ⟨[0], rfl, Same.own h1 hp, upd_same, by simp, by simp⟩
        · walk_at "sts"
          exact ⟨rs, rfl, h1, h2, fun z => g (by rw [z]; rfl), by omega⟩
      · rintro σ2 H2 ⟨rs2, rfl, g1, g2, g3, g4⟩
        walk_at "sts"
        exact k p _ rs2 g1 hp g2 g3 g4
/-! ### so -/
theorem fn_void {f : Addr} {fd : FuncData} {ps : List Str} {sp : Sp} {k : Nat} (h : ∀ vs H Q E, ¬ sp vs H Q E) : FnOk P w K mg base CX0 k f fd ps sp :=
  ⟨fun vs H Q E z => (h vs H Q E z).elim, fun A outer s H args us vs Q E hr e0 hb r z => (h vs H Q E z).elim⟩
def sp__law_so (n : Nat) : Sp := fun vs H Q _ => ∃ (sp : List Addr) (v u : V) (d : Da), vs = [v, u] ∧ Rp sp H v d ∧ Rp sp H u d ∧ Dn n d ∧ Q (.bl true) H
theorem x_so {n : Nat} {H : Hp} {Q : VK} {E : XK} {sp : List Addr} {v u : V} {d : Da} (h1 : Rp sp H v d) (h2 : Rp sp H u d) (hn : Dn n d) (q : Q (.bl true) H) : sp__law_so n [v, u] H Q E := ⟨sp, v, u, d, rfl, h1, h2, hn, q⟩
theorem ok__law_so {f : Addr} {fd : FuncData} (F : Fun K "_law_so" "_law_so" s__law_so f fd) (T : Txt K mg C_BadValue fI_BadValue) (n : Nat) (O__law_so : Ok P w K mg base n "_law_so" ["found", "meant"] (sp__law_so n)) : FnOk P w K mg base CX0 (n + 1) f fd ["found", "meant"] (sp__law_so (n + 1)) := by
  refine F.ok sc__law_so (fun vs H Q E h => ?_) (fun cdv A outer s H vs Q E hr h => ?_)
  · obtain ⟨sp, v, u, d, rfl, _⟩ := h
    rfl
  · obtain ⟨sp, v, u, d, rfl, h1, h2, hn, k⟩ := h
    refine ⟨_, d__law_so hr T O__law_so, ?_⟩
    unfold t__law_so
    refine x_start (σ' := [some v, some u, none]) rfl ?_
    walk_at "sts"
    cases hn with
    | non =>
      cases h1.nonI; cases h2.nonI
      refine x_dec (fun _ => ?_) (fun z => absurd rfl z)
      walk_at "sts"
      rw [decide_eq_true rfl]
      exact k
    | bl b =>
      cases h1.blI; cases h2.blI
      refine x_dec (fun z => nomatch z) (fun _ => ?_)
      walk_at "sts"
      refine x_isaB h2 (by decide) (b := false) (by walk_at "isa") ?_
      walk_at "sts"
      refine x_isaB h2 (by decide) (b := true) (by walk_at "isa") ?_
      walk_at "sts"
      refine x_isaB h2 (by decide) (b := true) (by walk_at "isa") ?_
      walk_at "sts"
      refine x_isaB h1 (by decide) (b := true) (by walk_at "isa") ?_
      walk_at "sts"
      exact x_eqR rfl k
    | int i =>
      cases h1.intI; cases h2.intI
      refine x_dec (fun z => nomatch z) (fun _ => ?_)
      walk_at "sts"
      refine x_isaB h2 (by decide) (b := false) (by walk_at "isa") ?_
      walk_at "sts"
      refine x_isaB h2 (by decide) (b := false) (by walk_at "isa") ?_
      walk_at "sts"
      refine x_isaB h1 (by decide) (b := false) (by walk_at "isa") ?_
      walk_at "sts"
      refine x_isaB h2 (by decide) (b := true) (by walk_at "isa") ?_
      walk_at "sts"
      refine x_isaB h1 (by decide) (b := true) (by walk_at "isa") ?_
      walk_at "st"
      walk_at "st"
      walk_at "st"
      walk_at "st"
      walk_at "st"
      exact x_eqR rfl k
    | str x =>
      cases h1.strI; cases h2.strI
      refine x_dec (fun z => nomatch z) (fun _ => ?_)
      walk_at "sts"
      refine x_isaB h2 (by decide) (b := false) (by walk_at "isa") ?_
      walk_at "sts"
      refine x_isaB h2 (by decide) (b := false) (by walk_at "isa") ?_
      walk_at "sts"
      refine x_isaB h1 (by decide) (b := false) (by walk_at "isa") ?_
      walk_at "sts"
      refine x_isaB h2 (by decide) (b := false) (by walk_at "isa") ?_
      walk_at "sts"
      refine x_isaB h2 (by decide) (b := true) (by walk_at "isa") ?_
      walk_at "sts"
      refine x_isaB h1 (by decide) (b := true) (by walk_at "isa") ?_
      walk_at "sts"
      exact x_eqR rfl k
    | @tup _ ds hb hd =>
      obtain ⟨a1, xs, rfl, n1, e1, r1⟩ := h1.tupI
      obtain ⟨a2, ys, rfl, n2, e2, r2⟩ := h2.tupI
      refine x_dec (fun z => nomatch z) (fun _ => ?_)
      walk_at "sts"
      refine x_isaB h2 (by decide) (b := true) (by walk_at "isa") ?_
      walk_at "sts"
      refine x_isaB h1 (by decide) (b := true) (by walk_at "isa") ?_
      walk_at "sts"
      refine x_lenT e1 ?_
      walk_at "sts"
      refine x_lenT e2 ?_
      walk_at "sts"
      rw [r1.1, r2.1]
      refine x_ndec (fun z => absurd rfl z) (fun _ => ?_)
      walk_at "sts"
      refine x_lenT e2 ?_
      walk_at "sts"
      rw [r2.1]
      · refine x_rng ds.length (Nat.le_trans hb (by decide)) rfl ?_
        refine x_loopR (fun i σ H' => ∃ x, σ = [some (.ref a1), some (.ref a2), x] ∧ H' = H) ⟨none, rfl, rfl⟩ ?_ ?_
        · rintro i σ H' hi ⟨x, rfl, rfl⟩
          obtain ⟨y1, g1, p1⟩ := rps_get r1 (List.getElem?_eq_getElem hi)
          obtain ⟨y2, g2, p2⟩ := rps_get r2 (List.getElem?_eq_getElem hi)
          walk_at "sts"
          refine x_ixT e1 (at_of (j := i) rfl g1) ?_
          walk_at "sts"
          refine x_ixT e2 (at_of (j := i) rfl g2) ?_
          walk_at "sts"
          refine x_so p1 p2 (hd _ (List.getElem_mem hi)) ?_
          walk_at "sts"
          exact ⟨_, rfl, rfl⟩
        · rintro σ H' ⟨x, rfl, rfl⟩
          walk_at "sts"
          exact k
theorem rok__law_so {f : Addr} {fd : FuncData} (F : Fun K "_law_so" "_law_so" s__law_so f fd) (T : Txt K mg C_BadValue fI_BadValue) (m : mg "_law_so" = some (.ref f)) (b : Binds K fd ["found", "meant"] []) : ∀ n, Ok P w K mg base n "_law_so" ["found", "meant"] (sp__law_so n)
  | 0 => ⟨f, fd, fn_void fun vs H Q E ⟨sp, v, u, d, _, _, _, hn, _⟩ => (nomatch hn), m, F.kp, b⟩
  | n + 1 => ⟨f, fd, ok__law_so F T n (rok__law_so F T m b n), m, F.kp, b⟩
/-! ### listed, tupled -/
def sp__law_listed (n : Nat) : Sp := fun vs H Q _ => ∃ (sp : List Addr) (v : V) (d : Da), vs = [v] ∧ Rp sp H v d ∧ Dn n d ∧ Live sp H ∧ ∀ v' H', Same H H' → Rp sp H' v' d.listed → Q v' H'
theorem x_listed {n : Nat} {H : Hp} {Q : VK} {E : XK} {sp : List Addr} {v : V} {d : Da} (h1 : Rp sp H v d) (hn : Dn n d) (ho : Live sp H) (q : ∀ v' H', Same H H' → Rp sp H' v' d.listed → Q v' H') : sp__law_listed n [v] H Q E := ⟨sp, v, d, rfl, h1, hn, ho, q⟩
theorem ok__law_listed {f : Addr} {fd : FuncData} (F : Fun K "_law_listed" "_law_listed" s__law_listed f fd) (T : Txt K mg C_BadValue fI_BadValue) (n : Nat) (O__law_listed : Ok P w K mg base n "_law_listed" ["value"] (sp__law_listed n)) : FnOk P w K mg base CX0 (n + 1) f fd ["value"] (sp__law_listed (n + 1)) := by
  refine F.ok sc__law_listed (fun vs H Q E h => ?_) (fun cdv A outer s H vs Q E hr h => ?_)
  · obtain ⟨sp, v, d, rfl, _⟩ := h
    rfl
  · obtain ⟨sp, v, d, rfl, h1, hn, ho, k⟩ := h
    refine ⟨_, d__law_listed hr T O__law_listed, ?_⟩
    unfold t__law_listed
    refine x_start (σ' := [some v, none]) rfl ?_
    walk_at "sts"
    cases hn with
    | @tup _ ds hb hd =>
      refine x_isaB h1 (by decide) (b := true) (by walk_at "isa") ?_
      walk_at "sts"
      obtain ⟨a1, xs, rfl, n1, e1, r1⟩ := h1.tupI
      refine x_lcT (xs := xs) (SqT.of e1) (fun D i H' => Same H H' ∧ H D = none ∧ ∃ ys, H' D = some (.lst ys) ∧ ys.length ≤ i ∧ Rps (D :: sp) H' ys ((ds.take i).map Da.listed)) ?_ ?_ ?_ ?_
      · exact fun D hD => ⟨Same.new (Same.refl H) hD, hD, [], upd_same, Nat.le_refl _, Rps.nil⟩
      · exact fun D i H' _ ⟨s1, _⟩ => SqT.of (s1 _ _ e1)
      · rintro D i x H' hx ⟨s1, hD, ys, hy, hl, ry⟩
        obtain ⟨d, gd, rd⟩ := rps_at r1 hx
        have hi : i < ds.length := (List.getElem?_eq_some_iff.mp gd).1
        walk_at "sts"
        refine ⟨rfl, ?_⟩
        walk_at "sts"
        refine x_listed ((rd.grow hD).same s1) (hd _ (List.mem_of_getElem? gd)) ((ho.same s1).cons hy) fun v' H2 s2 r2 => ?_
        have hy2 := s2 _ _ hy
        refine ⟨ys, hy2, szl (by omega), Same.own (Same.trans s1 s2) hD, hD, _, upd_same, by simp; omega, ?_⟩
        have kk : Kp (D :: sp) H2 (upd H2 D (.lst (ys ++ [v']))) := Kp.refl.mut (List.mem_cons_self ..)
        have e : (ds.take (i + 1)).map Da.listed = (ds.take i).map Da.listed ++ [d.listed] := by
          rw [List.take_add_one, gd, List.map_append]
          rfl
        rw [e]
        exact rps_snoc (rps_kp (rps_same ry s2) kk) (r2.kp kk)
      · rintro D H' ⟨s1, hD, ys, hy, hl, ry⟩
        rw [r1.1, List.take_length] at ry
        refine k _ _ s1 ?_
        rw [listed_tup]
        exact rps_lst (rps_tail ry) (ho.new hD) hy
    | _ =>
      refine x_isaB h1 (by decide) (b := false) (by walk_at "isa") ?_
      walk_at "sts"
      exact k _ _ (Same.refl H) h1
theorem rok__law_listed {f : Addr} {fd : FuncData} (F : Fun K "_law_listed" "_law_listed" s__law_listed f fd) (T : Txt K mg C_BadValue fI_BadValue) (m : mg "_law_listed" = some (.ref f)) (b : Binds K fd ["value"] []) : ∀ n, Ok P w K mg base n "_law_listed" ["value"] (sp__law_listed n)
  | 0 => ⟨f, fd, fn_void fun vs H Q E ⟨sp, v, d, _, _, hn, _⟩ => (nomatch hn), m, F.kp, b⟩
  | n + 1 => ⟨f, fd, ok__law_listed F T n (rok__law_listed F T m b n), m, F.kp, b⟩
def sp__law_handed : Sp := fun vs H Q _ => ∃ (row sp : Addr) (v : V) (d : Da), vs = [.ref row, .ref sp, v] ∧ Wd H row sp ∧ Rp [sp] H v d ∧ Dn 3 d ∧ ∀ v' H' d', Kp [sp] H H' → Wd H' row sp → (d' = d ∨ d' = d.listed) → Rp [sp] H' v' d' → Q v' H'
theorem x_handed {row sp : Addr} {v : V} {d : Da} {H : Hp} {Q : VK} {E : XK} (W : Wd H row sp) (h : Rp [sp] H v d) (hn : Dn 3 d) (q : ∀ v' H' d', Kp [sp] H H' → Wd H' row sp → (d' = d ∨ d' = d.listed) → Rp [sp] H' v' d' → Q v' H') : sp__law_handed [.ref row, .ref sp, v] H Q E := ⟨row, sp, v, d, rfl, W, h, hn, q⟩
theorem ok__law_handed {f : Addr} {fd : FuncData} (F : Fun K "_law_handed" "_law_handed" s__law_handed f fd) (T : Txt K mg C_BadValue fI_BadValue) (O__law_listed : Ok P w K mg base 3 "_law_listed" ["value"] (sp__law_listed 3)) (O__law_take : Ok P w K mg base 2 "_law_take" ["row", "spot", "limit"] (sp__law_take)) : FnOk P w K mg base CX0 4 f fd ["row", "spot", "value"] sp__law_handed := by
  refine F.ok sc__law_handed (fun vs H Q E h => ?_) (fun cdv A outer s H vs Q E hr h => ?_)
  · obtain ⟨row, sp, v, d, rfl, _⟩ := h
    rfl
  · obtain ⟨row, sp, v, d, rfl, W, h1, hn, k⟩ := h
    refine ⟨_, d__law_handed hr T O__law_listed O__law_take, ?_⟩
    unfold t__law_handed
    refine x_start (σ' := [some (.ref row), some (.ref sp), some v]) rfl ?_
    walk_at "sts"
    refine x_take W (by decide) fun r1 H1 a1 b1 k1 W1 => ?_
    walk_at "sts"
    refine x_dec (fun _ => ?_) (fun _ => ?_)
    · walk_at "sts"
      exact x_listed (h1.kp k1) hn W1.live fun v' H2 s2 r2 => k _ _ _ (k1.same s2) (W1.same s2) (.inr rfl) r2
    · walk_at "sts"
      exact k _ _ _ k1 W1 (.inl rfl) (h1.kp k1)
/-! ### the program's kinds -/
def Da.isInt : Da → Bool
  | .int _ => true
  | _ => false
def Da.isSeq : Da → Bool
  | .tup _ => true
  | .lst _ => true
  | _ => false
def Da.isCo : Da → Bool
  | .int i => decide (-1000000 ≤ i) && decide (i ≤ 1000000)
  | _ => false
def Da.le : Da → Da → Bool
  | .int i, .int j => decide (i ≤ j)
  | _, _ => false
def prL : List Da → Bool
  | [a, b] => a.isCo && (b.isCo && a.le b)
  | _ => false
def Da.isPr : Da → Bool
  | .tup l => prL l
  | .lst l => prL l
  | _ => false
def bxL (l : List Da) : Bool := decide (1 ≤ (l.length : Int)) && decide ((l.length : Int) ≤ 4) && (l.map Da.isPr).all id
def Da.isBx : Da → Bool
  | .tup l => bxL l
  | .lst l => bxL l
  | _ => false
theorem Da.seq_or (d : Da) : (∃ ds, d.seq ds) ∨ (d.isSeq = false ∧ d.isPr = false ∧ d.isBx = false) := by
  cases d with
  | tup l => exact .inl ⟨l, .inl rfl⟩
  | lst l => exact .inl ⟨l, .inr rfl⟩
  | _ => exact .inr ⟨rfl, rfl, rfl⟩
theorem Da.seq_is {d : Da} {ds : List Da} (h : d.seq ds) : d.isSeq = true ∧ d.isPr = prL ds ∧ d.isBx = bxL ds := by
  rcases h with rfl | rfl <;> exact ⟨rfl, rfl, rfl⟩
def sp_is_integer : Sp := fun vs H Q _ => ∃ (ex : List Addr) (v : V) (d : Da), vs = [v] ∧ Rp ex H v d ∧ Q (.bl d.isInt) H
theorem ok_is_integer {f : Addr} {fd : FuncData} (F : Fun K "is_integer" "is_integer" s_is_integer f fd) (T : Txt K mg C_BadValue fI_BadValue)  : FnOk P w K mg base CX0 1 f fd ["value"] sp_is_integer := by
  refine F.ok sc_is_integer (fun vs H Q E h => ?_) (fun cdv A outer s H vs Q E hr h => ?_)
  · obtain ⟨ex, v, d, rfl, _⟩ := h
    rfl
  · obtain ⟨ex, v, d, rfl, h, k⟩ := h
    refine ⟨_, d_is_integer hr T , ?_⟩
    unfold t_is_integer
    refine x_start (σ' := [some v]) rfl ?_
    walk_at "sts"
    cases d with
    | int i =>
      refine x_isaB h (by decide) (b := true) (by walk_at "isa") ?_
      walk_at "sts"
      refine x_isaB h (by decide) (b := false) (by walk_at "isa") ?_
      walk_at "sts"
      exact k
    | bl b =>
      refine x_isaB h (by decide) (b := true) (by walk_at "isa") ?_
      walk_at "sts"
      refine x_isaB h (by decide) (b := true) (by walk_at "isa") ?_
      walk_at "sts"
      exact k
    | _ =>
      refine x_isaB h (by decide) (b := false) (by walk_at "isa") ?_
      walk_at "sts"
      exact k
/-! ### the law -/
theorem x_numbers {a : Addr} {ns : List Int} {H : Hp} {Q : VK} {E : XK} (h : SqL K H a (ns.map V.int)) (hl : ns.length ≤ 63) (q : ∀ p H' (rs : List Int), Same H H' → H p = none → H' p = some (.lst (rs.map V.int)) → rs ≠ [] → rs.length ≤ 4000 → Q (.ref p) H') : sp__law_numbers K [.ref a] H Q E := ⟨a, ns, rfl, h, hl, q⟩
theorem wd_start {H : Hp} {row sp : Addr} {rs : List Int} (h1 : H row = some (.lst (rs.map V.int))) (h2 : H sp = none) (h3 : rs ≠ []) (h4 : rs.length ≤ 4000) : Wd (upd H sp (.lst [.int 0])) row sp :=
  ⟨⟨0, rs, Int.le_refl 0, upd_same, upd_get h2 h1, h3, h4⟩, Ne.symm (new_ne h2 h1)⟩
/-! ### fractions -/
def sg (a b : Int) : Int := if b < 0 then -((Nat.gcd a.natAbs b.natAbs : Nat) : Int) else ((Nat.gcd a.natAbs b.natAbs : Nat) : Int)
def frD (a b : Int) : Da := .tup [.int (a.fdiv (sg a b)), .int (b.fdiv (sg a b))]
def sp_fraction_of (C : Addr) : Sp := fun vs H Q E => ∃ (ex : List Addr) (v u : V) (d1 d2 : Da), vs = [v, u] ∧ Rp ex H v d1 ∧ Rp ex H u d2 ∧ Live ex H ∧
  (d1.isInt = false → ∀ d : Addr, H d = none → E (.ref C) (some d) (upd H d (.xd [(("at" : Str), .int 0)]))) ∧
  (d1.isInt = true → (d2.isInt = false ∨ d2 = .int 0) → ∀ d : Addr, H d = none → E (.ref C) (some d) (upd H d (.xd [(("at" : Str), .int 1)]))) ∧
  (∀ a b, d1 = .int a → d2 = .int b → b ≠ 0 → b.natAbs < 2 ^ 9000 ∧ ∀ v' H', Same H H' → Rp ex H' v' (frD a b) → Q v' H')
theorem ok_fraction_of {f : Addr} {fd : FuncData} (F : Fun K "fraction_of" "fraction_of" s_fraction_of f fd) (T : Txt K mg C_BadValue fI_BadValue) (O_is_integer : Ok P w K mg base 1 "is_integer" ["value"] (sp_is_integer)) : FnOk P w K mg base (L2.CX P w) 3 f fd ["top", "bottom"] (sp_fraction_of C_BadValue) := by
  refine F.okX sc_fraction_of (fun vs H Q E h => ?_) (fun cdv A outer s H vs Q E hr h => ?_)
  · obtain ⟨ex, v, u, d1, d2, rfl, _⟩ := h
    rfl
  · obtain ⟨ex, v, u, d1, d2, rfl, h1, h2, L, k0, k1, k2⟩ := h
    refine ⟨_, d_fraction_of hr T O_is_integer, ?_⟩
    unfold t_fraction_of
    refine x_start (σ' := [some v, some u, none]) rfl ?_
    walk_at "sts"
    refine ⟨ex, v, d1, rfl, h1, ?_⟩
    walk_at "sts"
    cases i1 : d1.isInt with
    | false =>
      walk_at "sts"
      refine Eat.x_raise ?_
      walk_at "sts"
      exact ⟨_, rfl, fun d hd => k0 i1 d hd⟩
    | true =>
      walk_at "sts"
      refine ⟨ex, u, d2, rfl, h2, ?_⟩
      walk_at "sts"
      cases i2 : d2.isInt with
      | false =>
        walk_at "sts"
        refine Eat.x_raise ?_
        walk_at "sts"
        exact ⟨_, rfl, fun d hd => k1 i1 (.inl i2) d hd⟩
      | true =>
        walk_at "sts"
        cases d1 with
        | int a =>
          cases d2 with
          | int b =>
            cases h1.intI; cases h2.intI
            walk_at "sts"
            refine x_dec (fun c => ?_) (fun c => ?_)
            · walk_at "sts"
              refine Eat.x_raise ?_
              walk_at "sts"
              exact ⟨_, rfl, fun d hd => k1 i1 (.inr (by rw [c])) d hd⟩
            · obtain ⟨hb, k3⟩ := k2 a b rfl rfl c
              walk_at "sts"
              refine ⟨a, b, rfl, ?_⟩
              walk_at "sts"
              have hg : 0 < Nat.gcd a.natAbs b.natAbs := Nat.gcd_pos_of_pos_right _ (by omega)
              have hle : Nat.gcd a.natAbs b.natAbs ≤ b.natAbs := Nat.gcd_le_right _ (by omega)
              have n0 : sg a b ≠ 0 := by unfold sg; split <;> omega
              have nb : (sg a b).natAbs < 2 ^ 9000 := by
                refine Nat.lt_of_le_of_lt ?_ hb
                unfold sg
                split <;> omega
              refine x_cut (fun σ' H' => σ' = [some (.int a), some (.int b), some (.int (sg a b))] ∧ H' = H) ?_ ?_
              · walk_at "sts"
                refine x_dec (fun c2 => ?_) (fun c2 => ?_)
                · walk_at "sts"
                  refine ⟨?_, rfl⟩
                  unfold sg
                  rw [if_pos c2]
                  rfl
                · walk_at "sts"
                  refine ⟨?_, rfl⟩
                  unfold sg
                  rw [if_neg c2]
                  rfl
              · rintro σ' H' ⟨rfl, rfl⟩
                walk_at "sts"
                refine x_fdvA n0 nb (Nat.le_refl _) ?_
                walk_at "sts"
                refine x_fdvA n0 nb (Nat.le_refl _) ?_
                walk_at "sts"
                exact x_mkT (ex := ex) (ds := [.int (a.fdiv (sg a b)), .int (b.fdiv (sg a b))]) (by walk_at "rps") L (by walk_at "len") fun v' H' s1 r1 => k3 v' H' s1 r1
          | _ => exact absurd i2 Bool.false_ne_true
        | _ => exact absurd i1 Bool.false_ne_true
/-- the tuple that a caught error becomes -/
def badD (n : Int) : Da := .tup [.str "bad", .int n]
def sp__law_made : Sp := fun vs H Q _ => ∃ (ex : List Addr) (v u : V) (d1 d2 : Da), vs = [v, u] ∧ Rp ex H v d1 ∧ Rp ex H u d2 ∧ Live ex H ∧
  (d1.isInt = false → ∀ v' H', Same H H' → Rp ex H' v' (badD 0) → Q v' H') ∧
  (d1.isInt = true → (d2.isInt = false ∨ d2 = .int 0) → ∀ v' H', Same H H' → Rp ex H' v' (badD 1) → Q v' H') ∧
  (∀ a b, d1 = .int a → d2 = .int b → b ≠ 0 → b.natAbs < 2 ^ 9000 ∧ ∀ v' H', Same H H' → Rp ex H' v' (frD a b) → Q v' H')
theorem ok__law_made {f : Addr} {fd : FuncData} (F : Fun K "_law_made" "_law_made" s__law_made f fd) (T : Txt K mg C_BadValue fI_BadValue) (kb_fraction_of_0_bottom_top : OkXK P w K mg base 3 "fraction_of" ["top", "bottom"] (sp_fraction_of C_BadValue) 0 ["bottom", "top"] [1, 0]) : FnOk P w K mg base CX0 4 f fd ["top", "bottom"] sp__law_made := by
  refine F.ok sc__law_made (fun vs H Q E h => ?_) (fun cdv A outer s H vs Q E hr h => ?_)
  · obtain ⟨ex, v, u, d1, d2, rfl, _⟩ := h
    rfl
  · obtain ⟨ex, v, u, d1, d2, rfl, h1, h2, L, k0, k1, k2⟩ := h
    refine ⟨_, d__law_made hr T kb_fraction_of_0_bottom_top, ?_⟩
    unfold t__law_made
    refine x_start (σ' := [some v, some u, none]) rfl ?_
    refine x_try ?_
    walk_at "sts"
    refine ⟨rfl, rfl, ?_⟩
    have caught : ∀ (n : Int) (d : Addr), H d = none → (∀ v' H', Same H H' → Rp ex H' v' (badD n) → Q v' H') →
        wAs K (.ref C_BadValue) 2 (fun a cls d => tRet (tTup (tCons (tC (.str "bad")) (tCons (Eat.tBy C_BadValue a cls d (tVar 2)) tNil)))) (fun _ _ _ _ => False) ⟨fun _ H' => Q .non H', Q, fun _ _ => False, fun _ _ => False⟩ (.ref C_BadValue) (some d) [some v, some u, none] (upd H d (.xd [(("at" : Str), .int n)])) := fun n d hd kk => by
      refine ⟨true, T.e_BadValue.te, fun _ a ha => ?_, fun z => nomatch z⟩
      walk_at "sts"
      refine Eat.x_by (dd := d) (v := .int n) ?_ (fun Q Q' h ⟨v, e, q⟩ => ⟨v, e, h _ _ q⟩)
      walk_at "sts"
      refine ⟨rfl, upd_same, ?_⟩
      walk_at "sts"
      have s1 : Same H (upd H d (.xd [(("at" : Str), .int n)])) := Same.new (Same.refl _) hd
      exact x_mkT (ex := ex) (ds := [.str "bad", .int n]) (by walk_at "rps") (L.same s1) (by walk_at "len") fun v' H' s2 r2 => kk v' H' (Same.trans s1 s2) r2
    exact ⟨ex, v, u, d1, d2, rfl, h1, h2, L, fun i d hd => caught 0 d hd (k0 i), fun i j d hd => caught 1 d hd (k1 i j), k2⟩
def cmpI (a b c e : Int) : Int := if a * e < c * b then -1 else if c * b < a * e then 1 else 0
def sp_compare_moments : Sp := fun vs H Q _ => ∃ (ex : List Addr) (v u : V) (d1 d2 : Da) (a b c e : Int), vs = [v, u] ∧ Rp ex H v d1 ∧ Rp ex H u d2 ∧ d1.seq [.int a, .int b] ∧ d2.seq [.int c, .int e] ∧ (-(2 ^ 64) < b ∧ b < 2 ^ 64) ∧ (-(2 ^ 64) < e ∧ e < 2 ^ 64) ∧ Q (.int (cmpI a b c e)) H
theorem x_compare {ex : List Addr} {v u : V} {d1 d2 : Da} {a b c e : Int} {H : Hp} {Q : VK} {E : XK} (h1 : Rp ex H v d1) (h2 : Rp ex H u d2) (s1 : d1.seq [.int a, .int b]) (s2 : d2.seq [.int c, .int e]) (hb : -(2 ^ 64) < b ∧ b < 2 ^ 64) (he : -(2 ^ 64) < e ∧ e < 2 ^ 64) (q : Q (.int (cmpI a b c e)) H) : sp_compare_moments [v, u] H Q E :=
  ⟨ex, v, u, d1, d2, a, b, c, e, rfl, h1, h2, s1, s2, hb, he, q⟩
theorem ok_compare_moments {f : Addr} {fd : FuncData} (F : Fun K "compare_moments" "compare_moments" s_compare_moments f fd) (T : Txt K mg C_BadValue fI_BadValue)  : FnOk P w K mg base CX0 1 f fd ["one", "other"] sp_compare_moments := by
  refine F.ok sc_compare_moments (fun vs H Q E h => ?_) (fun cdv A outer s H vs Q E hr h => ?_)
  · obtain ⟨ex, v, u, d1, d2, a, b, c, e, rfl, _⟩ := h
    rfl
  · obtain ⟨ex, v, u, d1, d2, a, b, c, e, rfl, h1, h2, s1, s2, hb, he, k⟩ := h
    refine ⟨_, d_compare_moments hr T , ?_⟩
    unfold t_compare_moments
    refine x_start (σ' := [some v, some u, none, none]) rfl ?_
    walk_at "sts"
    refine x_ixR (i := 0) (d' := .int a) h1 s1 rfl rfl fun x r => ?_
    cases r.intI
    walk_at "sts"
    refine x_ixR (i := 1) (d' := .int e) h2 s2 rfl rfl fun x r => ?_
    cases r.intI
    refine x_mulI (cmulR he.1 he.2) ?_
    walk_at "sts"
    refine x_ixR (i := 0) (d' := .int c) h2 s2 rfl rfl fun x r => ?_
    cases r.intI
    walk_at "sts"
    refine x_ixR (i := 1) (d' := .int b) h1 s1 rfl rfl fun x r => ?_
    cases r.intI
    refine x_mulI (cmulR hb.1 hb.2) ?_
    walk_at "sts"
    unfold cmpI at k
    refine x_dec (fun g => ?_) (fun g => ?_)
    · rw [if_pos g] at k
      walk_at "sts"
      exact k
    · rw [if_neg g] at k
      walk_at "sts"
      refine x_dec (fun g2 => ?_) (fun g2 => ?_)
      · rw [if_pos g2] at k
        walk_at "sts"
        exact k
      · rw [if_neg g2] at k
        walk_at "sts"
        exact k
def sp__law_less : Sp := fun vs H Q _ => ∃ (ex : List Addr) (v u : V) (d1 d2 : Da) (a b c e : Int), vs = [v, u] ∧ Rp ex H v d1 ∧ Rp ex H u d2 ∧ d1.seq [.int a, .int b] ∧ d2.seq [.int c, .int e] ∧ (-(2 ^ 64) < b ∧ b < 2 ^ 64) ∧ (-(2 ^ 64) < e ∧ e < 2 ^ 64) ∧ Q (.bl (decide (a * e < c * b))) H
theorem x_less {ex : List Addr} {v u : V} {d1 d2 : Da} {a b c e : Int} {H : Hp} {Q : VK} {E : XK} (h1 : Rp ex H v d1) (h2 : Rp ex H u d2) (s1 : d1.seq [.int a, .int b]) (s2 : d2.seq [.int c, .int e]) (hb : -(2 ^ 64) < b ∧ b < 2 ^ 64) (he : -(2 ^ 64) < e ∧ e < 2 ^ 64) (q : Q (.bl (decide (a * e < c * b))) H) : sp__law_less [v, u] H Q E :=
  ⟨ex, v, u, d1, d2, a, b, c, e, rfl, h1, h2, s1, s2, hb, he, q⟩
theorem ok__law_less {f : Addr} {fd : FuncData} (F : Fun K "_law_less" "_law_less" s__law_less f fd) (T : Txt K mg C_BadValue fI_BadValue)  : FnOk P w K mg base CX0 1 f fd ["one", "other"] sp__law_less := by
  refine F.ok sc__law_less (fun vs H Q E h => ?_) (fun cdv A outer s H vs Q E hr h => ?_)
  · obtain ⟨ex, v, u, d1, d2, a, b, c, e, rfl, _⟩ := h
    rfl
  · obtain ⟨ex, v, u, d1, d2, a, b, c, e, rfl, h1, h2, s1, s2, hb, he, k⟩ := h
    refine ⟨_, d__law_less hr T , ?_⟩
    unfold t__law_less
    refine x_start (σ' := [some v, some u]) rfl ?_
    walk_at "sts"
    refine x_ixR (i := 0) (d' := .int a) h1 s1 rfl rfl fun x r => ?_
    cases r.intI
    walk_at "sts"
    refine x_ixR (i := 1) (d' := .int e) h2 s2 rfl rfl fun x r => ?_
    cases r.intI
    refine x_mulI (cmulR he.1 he.2) ?_
    walk_at "sts"
    refine x_ixR (i := 0) (d' := .int c) h2 s2 rfl rfl fun x r => ?_
    cases r.intI
    walk_at "sts"
    refine x_ixR (i := 1) (d' := .int b) h1 s1 rfl rfl fun x r => ?_
    cases r.intI
    refine x_mulI (cmulR hb.1 hb.2) ?_
    walk_at "sts"
    exact k
/-! ### Euclid, in ninety turns -/
def EuI (k x y : Nat) : Prop := ∃ m, (k = 2 * m ∧ y * 2 ^ m ≤ 2 ^ 40) ∨ (k = 2 * m + 1 ∧ x * 2 ^ m ≤ 2 ^ 40 ∧ y < x)
theorem eu_small {k x y : Nat} (h : EuI k x y) : y ≤ 2 ^ 40 := by
  obtain ⟨m, h | h⟩ := h
  · have : 1 ≤ 2 ^ m := Nat.one_le_two_pow
    exact Nat.le_trans (Nat.le_mul_of_pos_right y this) h.2
  · have : 1 ≤ 2 ^ m := Nat.one_le_two_pow
    have := Nat.le_trans (Nat.le_mul_of_pos_right x this) h.2.1
    omega
theorem eu_step {k x y : Nat} (h : EuI k x y) (hy : y ≠ 0) : EuI (k + 1) y (x % y) := by
  have hm : x % y < y := Nat.mod_lt _ (Nat.pos_of_ne_zero hy)
  obtain ⟨m, h | ⟨h1, h2, h3⟩⟩ := h
  · exact ⟨m, .inr ⟨by omega, h.2, hm⟩⟩
  · refine ⟨m + 1, .inl ⟨by omega, ?_⟩⟩
    have e : x = y * (x / y) + x % y := (Nat.div_add_mod x y).symm
    have q : 1 ≤ x / y := (Nat.one_le_div_iff (Nat.pos_of_ne_zero hy)).mpr (Nat.le_of_lt h3)
    have : y ≤ y * (x / y) := Nat.le_mul_of_pos_right y q
    have h4 : 2 * (x % y) ≤ x := by omega
    calc x % y * 2 ^ (m + 1) = 2 * (x % y) * 2 ^ m := by rw [Nat.pow_succ, Nat.mul_comm 2 (x % y), Nat.mul_assoc, Nat.mul_comm 2 (2 ^ m)]
      _ ≤ x * 2 ^ m := Nat.mul_le_mul_right _ h4
      _ ≤ 2 ^ 40 := h2
theorem eu_end {x y : Nat} (h : EuI 90 x y) : y = 0 := by
  obtain ⟨m, h | h⟩ := h
  · have e : m = 45 := by omega
    obtain ⟨h1, h2⟩ := h
    rw [e] at h2
    omega
  · omega
/-- as the law asks for it: in lowest terms by products of ends -/
def lowD (a b : Int) : Da := .tup [.int (a / ((Nat.gcd a.natAbs b.natAbs : Nat) : Int)), .int (b / ((Nat.gcd a.natAbs b.natAbs : Nat) : Int))]
def sp__law_lowest : Sp := fun vs H Q _ => ∃ (ex : List Addr) (v : V) (d : Da) (a b : Int), vs = [v] ∧ Rp ex H v d ∧ d.seq [.int a, .int b] ∧ Live ex H ∧ 0 < b ∧ b ≤ 2 ^ 40 ∧ ∀ v' H', Same H H' → Rp ex H' v' (lowD a b) → Q v' H'
theorem x_lowest {ex : List Addr} {v : V} {d : Da} {a b : Int} {H : Hp} {Q : VK} {E : XK} (h : Rp ex H v d) (hs : d.seq [.int a, .int b]) (L : Live ex H) (h0 : 0 < b) (h1 : b ≤ 2 ^ 40) (q : ∀ v' H', Same H H' → Rp ex H' v' (lowD a b) → Q v' H') : sp__law_lowest [v] H Q E := ⟨ex, v, d, a, b, rfl, h, hs, L, h0, h1, q⟩
theorem ok__law_lowest {f : Addr} {fd : FuncData} (F : Fun K "_law_lowest" "_law_lowest" s__law_lowest f fd) (T : Txt K mg C_BadValue fI_BadValue)  : FnOk P w K mg base CX0 1 f fd ["part"] sp__law_lowest := by
  refine F.ok sc__law_lowest (fun vs H Q E h => ?_) (fun cdv A outer s H vs Q E hr h => ?_)
  · obtain ⟨ex, v, d, a, b, rfl, _⟩ := h
    rfl
  · obtain ⟨ex, v, d, a, b, rfl, h, hs, L, h0, h1, k⟩ := h
    refine ⟨_, d__law_lowest hr T , ?_⟩
    unfold t__law_lowest
    refine x_start (σ' := [some v, none, none, none, none]) rfl ?_
    walk_at "sts"
    refine x_ixR (i := 0) (d' := .int a) h hs rfl rfl fun x r => ?_
    cases r.intI
    walk_at "sts"
    refine x_ixR (i := 1) (d' := .int b) h hs rfl rfl fun x r => ?_
    cases r.intI
    have ea : (if a < 0 then -a else a) = ((a.natAbs : Nat) : Int) := by split <;> omega
    have eb : b = ((b.natAbs : Nat) : Int) := by omega
    rw [ea]
    walk_at "sts"
    refine x_cut (fun σ' H' => ∃ (x3 x4 : Option V), σ' = [some v, some (.int ((Nat.gcd a.natAbs b.natAbs : Nat) : Int)), some (.int 0), x3, x4] ∧ H' = H) ?_ ?_
    · walk_at "sts"
      refine x_rng 90 (by decide) rfl ?_
      refine x_loopR (fun i σ H' => ∃ (x y : Nat) (x3 x4 : Option V), σ = [some v, some (.int (x : Int)), some (.int (y : Int)), x3, x4] ∧ H' = H ∧ Nat.gcd x y = Nat.gcd a.natAbs b.natAbs ∧ EuI i x y) ?_ ?_ ?_
      · refine ⟨a.natAbs, b.natAbs, none, none, ?_, rfl, rfl, 0, .inl ⟨rfl, by omega⟩⟩
        rw [← eb]
        rfl
      · rintro i σ H' hi ⟨x, y, x3, x4, rfl, rfl, hg, hE⟩
        walk_at "sts"
        refine x_dec (fun c => ?_) (fun c => ?_)
        · walk_at "sts"
          have y0 : y = 0 := by omega
          subst y0
          rw [Nat.gcd_zero_right] at hg
          rw [hg]
          exact ⟨_, _, rfl, rfl⟩
        · have hy : y ≠ 0 := fun z => c (by rw [z]; rfl)
          have hs := eu_small hE
          walk_at "sts"
          refine x_fdvA (m := 41) (by omega) (by omega) (by decide) ?_
          rw [Int.fdiv_eq_ediv_of_nonneg _ (by omega)]
          walk_at "sts"
          refine x_mulI (cmulR (by omega) (by omega)) ?_
          walk_at "sts"
          have e : (x : Int) - (x : Int) / (y : Int) * (y : Int) = ((x % y : Nat) : Int) := by
            rw [Int.natCast_emod, Int.emod_def, Int.mul_comm]
          rw [e]
          exact ⟨y, x % y, _, _, rfl, rfl, by rw [Nat.gcd_comm y, ← Nat.gcd_rec, Nat.gcd_comm]; exact hg, eu_step hE hy⟩
      · rintro σ H' ⟨x, y, x3, x4, rfl, rfl, hg, hE⟩
        have y0 := eu_end hE
        subst y0
        rw [Nat.gcd_zero_right] at hg
        rw [hg]
        exact ⟨_, _, rfl, rfl⟩
    · rintro σ' H' ⟨x3, x4, rfl, rfl⟩
      have hg : 0 < Nat.gcd a.natAbs b.natAbs := Nat.gcd_pos_of_pos_right _ (by omega)
      have hle : Nat.gcd a.natAbs b.natAbs ≤ b.natAbs := Nat.gcd_le_right _ (by omega)
      walk_at "sts"
      refine x_ixR (i := 0) (d' := .int a) h hs rfl rfl fun x r => ?_
      cases r.intI
      walk_at "sts"
      refine x_fdvA (m := 41) (by omega) (by omega) (by decide) ?_
      rw [Int.fdiv_eq_ediv_of_nonneg _ (by omega)]
      walk_at "sts"
      refine x_ixR (i := 1) (d' := .int b) h hs rfl rfl fun x r => ?_
      cases r.intI
      walk_at "sts"
      refine x_fdvA (m := 41) (by omega) (by omega) (by decide) ?_
      rw [Int.fdiv_eq_ediv_of_nonneg _ (by omega)]
      walk_at "sts"
      exact x_mkT (ex := ex) (ds := [.int (a / ((Nat.gcd a.natAbs b.natAbs : Nat) : Int)), .int (b / ((Nat.gcd a.natAbs b.natAbs : Nat) : Int))]) (by walk_at "rps") L (by walk_at "len") fun v' H' s1 r1 => k v' H' s1 r1
def sp__law_integer : Sp := fun vs H Q _ => ∃ (row sp : Addr), vs = [.ref row, .ref sp] ∧ Wd H row sp ∧ ∀ r H', -(2 ^ 40) ≤ r → r ≤ 2 ^ 40 → Kp [sp] H H' → Wd H' row sp → Q (.int r) H'
theorem x_integer {row sp : Addr} {H : Hp} {Q : VK} {E : XK} (W : Wd H row sp) (q : ∀ r H', -(2 ^ 40) ≤ r → r ≤ 2 ^ 40 → Kp [sp] H H' → Wd H' row sp → Q (.int r) H') : sp__law_integer [.ref row, .ref sp] H Q E := ⟨row, sp, rfl, W, q⟩
theorem ok__law_integer {f : Addr} {fd : FuncData} (F : Fun K "_law_integer" "_law_integer" s__law_integer f fd) (T : Txt K mg C_BadValue fI_BadValue) (O__law_take : Ok P w K mg base 2 "_law_take" ["row", "spot", "limit"] (sp__law_take)) (O__law_wide : Ok P w K mg base 3 "_law_wide" ["row", "spot", "limit"] (sp__law_wide)) : FnOk P w K mg base CX0 4 f fd ["row", "spot"] sp__law_integer := by
  refine F.ok sc__law_integer (fun vs H Q E h => ?_) (fun cdv A outer s H vs Q E hr h => ?_)
  · obtain ⟨row, sp, rfl, _⟩ := h
    rfl
  · obtain ⟨row, sp, rfl, W, k⟩ := h
    refine ⟨_, d__law_integer hr T O__law_take O__law_wide, ?_⟩
    unfold t__law_integer
    refine x_start (σ' := [some (.ref row), some (.ref sp), none, none]) rfl ?_
    walk_at "sts"
    refine x_take W (by decide) fun r1 H1 a1 b1 k1 W1 => ?_
    walk_at "sts"
    refine x_wide W1 (by decide) fun r2 H2 a2 b2 k2 W2 => ?_
    walk_at "sts"
    refine x_take W2 (by decide) fun r3 H3 a3 b3 k3 W3 => ?_
    walk_at "sts"
    refine x_mulI (cmulL (by omega) (by omega)) ?_
    walk_at "sts"
    refine x_pow (by decide) ?_
    walk_at "sts"
    have hgr0 : 0 ≤ r2 * (1 + r3) := Int.mul_nonneg a2 (by omega)
    have hgr : r2 * (1 + r3) ≤ 991026973 * 997 := Int.mul_le_mul (by omega) (by omega) (by omega) (by decide)
    generalize r2 * (1 + r3) = g at hgr0 hgr
    refine x_mulI (cmulL (by decide) (by decide)) ?_
    walk_at "sts"
    refine x_pow (by decide) ?_
    walk_at "sts"
    refine x_pow (by decide) ?_
    walk_at "sts"
    refine x_mkl (m := 6) rfl (by decide) fun p hp => ?_
    walk_at "sts"
    refine x_take (W3.new hp) (by decide) fun r4 H4 a4 b4 k4 W4 => ?_
    have e4 := k4 _ _ (not1 (W3.sp_ne hp)) upd_same
    have kk : Kp [sp] H H4 := (((k1.trans k2).trans k3).new hp).trans k4
    have hr : r4 = 0 ∨ r4 = 1 ∨ r4 = 2 ∨ r4 = 3 ∨ r4 = 4 ∨ r4 = 5 := by omega
    have p11 : (10 : Int) ^ (11 : Int).toNat = 100000000000 := by decide
    have p12 : (10 : Int) ^ (12 : Int).toNat = 1000000000000 := by decide
    rcases hr with rfl | rfl | rfl | rfl | rfl | rfl
    · exact x_ixL e4 rfl (k _ _ (by omega) (by omega) kk W4)
    · exact x_ixL e4 rfl (k _ _ (by omega) (by omega) kk W4)
    · exact x_ixL e4 rfl (k _ _ (by omega) (by omega) kk W4)
    · exact x_ixL e4 rfl (k _ _ (by omega) (by omega) kk W4)
    · exact x_ixL e4 rfl (k _ _ (by omega) (by omega) kk W4)
    · exact x_ixL e4 rfl (k _ _ (by omega) (by omega) kk W4)
/-! ### the law -/
def prD (p : Int × Int) : Da := .tup [.int p.1, .int p.2]
theorem pr_dn {n : Nat} (p : Int × Int) : Dn (n + 2) (prD p) := .tup (by simp) fun d hd => by
  rcases List.mem_cons.mp hd with rfl | hd
  · exact .int _
  · rw [List.mem_singleton.mp hd]; exact .int _
theorem bad_dn {n : Nat} (z : Int) : Dn (n + 2) (badD z) := .tup (by simp) fun d hd => by
  rcases List.mem_cons.mp hd with rfl | hd
  · exact .str _
  · rw [List.mem_singleton.mp hd]; exact .int _
theorem fr_low {a b : Int} (h : b ≠ 0) : frD a b = lowD (if 0 < b then a else -a) (if b < 0 then -b else b) := by
  have hg : 0 < Nat.gcd a.natAbs b.natAbs := Nat.gcd_pos_of_pos_right _ (by omega)
  by_cases c : b < 0
  · rw [if_pos c, if_neg (show ¬ 0 < b by omega)]
    unfold frD lowD sg
    rw [if_pos c, Int.natAbs_neg, Int.natAbs_neg]
    have d1 : ((Nat.gcd a.natAbs b.natAbs : Nat) : Int) ∣ a := Int.ofNat_dvd_left.mpr (Nat.gcd_dvd_left _ _)
    have d2 : ((Nat.gcd a.natAbs b.natAbs : Nat) : Int) ∣ b := Int.ofNat_dvd_left.mpr (Nat.gcd_dvd_right _ _)
    generalize ((Nat.gcd a.natAbs b.natAbs : Nat) : Int) = g at *
    have hg' : g ≠ 0 := fun z => by rw [z] at d2; have := Int.zero_dvd.mp d2; omega
    have key : ∀ x : Int, g ∣ x → x.fdiv (-g) = -x / g := fun x ⟨m, hm⟩ => by
      rw [hm]
      have e1 : g * m = -g * -m := by rw [Int.neg_mul_neg]
      have e2 : -(g * m) = g * -m := by rw [Int.mul_neg]
      rw [e2, Int.mul_ediv_cancel_left _ hg', e1, Int.mul_fdiv_cancel_left _ (by omega)]
    rw [key a d1, key b d2]
  · rw [if_neg c, if_pos (show 0 < b by omega)]
    unfold frD lowD sg
    rw [if_neg c, Int.fdiv_eq_ediv_of_nonneg _ (by omega), Int.fdiv_eq_ediv_of_nonneg _ (by omega)]
theorem low_ok {a b : Int} (h0 : 0 < b) (h1 : b ≤ 2 ^ 40) : 0 < b / ((Nat.gcd a.natAbs b.natAbs : Nat) : Int) ∧ b / ((Nat.gcd a.natAbs b.natAbs : Nat) : Int) ≤ 2 ^ 40 := by
  have hg : 0 < Nat.gcd a.natAbs b.natAbs := Nat.gcd_pos_of_pos_right _ (by omega)
  have hle : Nat.gcd a.natAbs b.natAbs ≤ b.natAbs := Nat.gcd_le_right _ (by omega)
  refine ⟨Int.ediv_pos_of_pos_of_dvd h0 (by omega) (Int.ofNat_dvd_left.mpr (Nat.gcd_dvd_right _ _)), ?_⟩
  exact Int.le_trans (Int.ediv_le_self _ (by omega)) h1
theorem cmp_neg (a b c e : Int) : cmpI c e a b = -(cmpI a b c e) := by
  unfold cmpI
  generalize a * e = x
  generalize c * b = y
  repeat' split
  all_goals omega
theorem cmp_same (a b : Int) : cmpI a b a b = 0 := by
  unfold cmpI
  rw [if_neg (Int.lt_irrefl _), if_neg (Int.lt_irrefl _)]
def sp_law (K : PySem.W.Frag) : Sp := fun vs H Q _ => ∃ (a : Addr) (ns : List Int), vs = [.ref a] ∧ SqL K H a (ns.map V.int) ∧ ns.length ≤ 63 ∧ ∀ H', Q (.bl true) H'
theorem ok_law {f : Addr} {fd : FuncData} (F : Fun K "law" "law" s_law f fd) (T : Txt K mg C_BadValue fI_BadValue) (O__law_handed : Ok P w K mg base 4 "_law_handed" ["row", "spot", "value"] (sp__law_handed)) (O__law_integer : Ok P w K mg base 4 "_law_integer" ["row", "spot"] (sp__law_integer)) (O__law_less : Ok P w K mg base 1 "_law_less" ["one", "other"] (sp__law_less)) (O__law_lowest : Ok P w K mg base 1 "_law_lowest" ["part"] (sp__law_lowest)) (O__law_made : Ok P w K mg base 4 "_law_made" ["top", "bottom"] (sp__law_made)) (O__law_numbers : Ok P w K mg base 1 "_law_numbers" ["script"] (sp__law_numbers K)) (O__law_so : Ok P w K mg base 4 "_law_so" ["found", "meant"] (sp__law_so 4)) (O__law_take : Ok P w K mg base 2 "_law_take" ["row", "spot", "limit"] (sp__law_take)) (O_compare_moments : Ok P w K mg base 1 "compare_moments" ["one", "other"] (sp_compare_moments)) (kb_compare_moments_0_other_one : OkK P w K mg base 1 "compare_moments" ["one", "other"] (sp_compare_moments) 0 ["other", "one"] [1, 0]) : FnOk P w K mg base CX0 5 f fd ["script"] (sp_law K) := by
  refine F.ok sc_law (fun vs H Q E h => ?_) (fun cdv A outer s H vs Q E hr h => ?_)
  · obtain ⟨a, ns, rfl, _⟩ := h
    rfl
  · obtain ⟨a, ns, rfl, ha, hl, k⟩ := h
    refine ⟨_, d_law hr T O__law_handed O__law_integer O__law_less O__law_lowest O__law_made O__law_numbers O__law_so O__law_take O_compare_moments kb_compare_moments_0_other_one, ?_⟩
    unfold t_law
    refine x_start (σ' := [some (.ref a), none, none, none, none, none, none, none, none, none, none, none]) rfl ?_
    walk_at "sts"
    refine x_numbers ha hl fun row H1 rs s1 _ hrow hne hle => ?_
    walk_at "sts"
    refine x_mkl rfl (by decide) fun sp hsp => ?_
    have W0 : Wd (upd H1 sp (.lst [.int 0])) row sp := wd_start hrow hsp hne hle
    walk_at "sts"
    refine x_mkT (ex := [sp]) (ds := [.int 0, .int 1]) (by walk_at "rps") W0.live (by walk_at "len") fun u0 H2 s2 q2 => ?_
    have W2 := W0.same s2
    walk_at "sts"
    refine x_mkl (m := 1) rfl (by decide) fun kp hkp => ?_
    have ks := W2.sp_ne hkp
    have kr := W2.row_ne hkp
    walk_at "sts"
    refine x_rng 6 (by decide) rfl ?_
    refine x_loopR (fun i σ H' => ∃ (x4 x5 x6 x7 x8 x9 x10 x11 : Option V) (xs : List V) (fs : List (Int × Int)), σ = [some (.ref a), some (.ref row), some (.ref sp), some (.ref kp), x4, x5, x6, x7, x8, x9, x10, x11] ∧ Wd H' row sp ∧ H' kp = some (.lst xs) ∧ Rps [kp, sp] H' xs (fs.map prD) ∧ fs ≠ [] ∧ fs.length ≤ i + 1 ∧ ∀ p, p ∈ fs → 0 < p.2 ∧ p.2 ≤ 2 ^ 40) ?_ ?_ ?_
    · refine ⟨none, none, none, none, none, none, none, none, [u0], [(0, 1)], rfl, W2.new hkp, upd_same, ?_, by simp, by simp, fun p hp => ?_⟩
      · have g : Rp [kp, sp] H2 u0 (prD (0, 1)) := q2.grow hkp
        exact Rps.cons (g.same (Same.new (Same.refl _) hkp)) Rps.nil
      · rw [List.mem_singleton.mp hp]; exact ⟨by decide, by decide⟩
    · rintro i σ H0 hi ⟨x4, x5, x6, x7, x8, x9, x10, x11, xs, fs, rfl, W, hk, rk, fne, fl, fb⟩
      walk_at "sts"
      refine x_integer W fun top H1 a1 b1 k1 W1 => ?_
      have k1' : Kp [kp, sp] H0 H1 := k1.more
      have hk1 := k1 _ _ (not1 ks) hk
      walk_at "sts"
      refine x_integer W1 fun bot H2 a2 b2 k2 W2 => ?_
      have k2' : Kp [kp, sp] H1 H2 := k2.more
      have hk2 := k2 _ _ (not1 ks) hk1
      have L2 : Live [kp, sp] H2 := W2.live.cons hk2
      walk_at "sts"
      -- found and due
      suffices main : ∀ (fv : V) (H3 : Hp), Same H2 H3 → Rp [kp, sp] H3 fv (if bot = 0 then badD 1 else frD top bot) → _ by
        refine ⟨[kp, sp], .int top, .int bot, .int top, .int bot, rfl, .int _, .int _, L2, fun z => absurd (show true = false from z) (by decide), fun _ z v' H' s r => ?_, fun a b ea eb h => ?_⟩
        · have hb : bot = 0 := by
            rcases z with z | z
            · exact absurd (show true = false from z) (by decide)
            · injection z
          refine main v' H' s ?_
          rw [if_pos hb]; exact r
        · injection ea with ea
          injection eb with eb
          subst ea eb
          refine ⟨Nat.lt_of_le_of_lt (m := 2 ^ 40) (by omega) (Nat.pow_lt_pow_right (by decide) (by decide)), fun v' H' s r => main v' H' s ?_⟩
          rw [if_neg h]; exact r
      intro fv H3 s3 rf
      have W3 := W2.same s3
      have hk3 := s3 _ _ hk2
      have L3 : Live [kp, sp] H3 := W3.live.cons hk3
      have rk3 : Rps [kp, sp] H3 xs (fs.map prD) := rps_same (rps_kp (rps_kp rk k1') k2') s3
      walk_at "sts"
      refine x_cut (fun σ' H' => ∃ (x8 : Option V) (xs : List V) (fs : List (Int × Int)), σ' = [some (.ref a), some (.ref row), some (.ref sp), some (.ref kp), some (.int (i : Int)), some (.int top), some (.int bot), some fv, x8, x9, x10, x11] ∧ Wd H' row sp ∧ H' kp = some (.lst xs) ∧ Rps [kp, sp] H' xs (fs.map prD) ∧ fs ≠ [] ∧ fs.length ≤ i + 1 + 1 ∧ ∀ p, p ∈ fs → 0 < p.2 ∧ p.2 ≤ 2 ^ 40) ?_ ?_
      · walk_at "sts"
        refine x_dec (fun c => ?_) (fun c => ?_)
        · rw [if_pos c] at rf
          walk_at "sts"
          refine x_mkT (ex := [kp, sp]) (ds := [.str "bad", .int 1]) (by walk_at "rps") L3 (by walk_at "len") fun u4 H4 s4 q4 => ?_
          walk_at "sts"
          refine x_so (rf.same s4) q4 (bad_dn (n := 2) 1) ?_
          walk_at "sts"
          exact ⟨_, xs, fs, rfl, W3.same s4, s4 _ _ hk3, rps_same rk3 s4, fne, by omega, fb⟩
        · rw [if_neg c, fr_low c] at rf
          walk_at "sts"
          have fin : ∀ (t' : Int) (H5 : Hp) (u5 : V), t' = (if 0 < bot then top else -top) → Same H3 H5 → Rp [kp, sp] H5 u5 (.tup [.int t', .int (if bot < 0 then -bot else bot)]) → ∀ Q' : VK, (∀ u6 H6, Same H3 H6 → Rp [kp, sp] H6 u6 (lowD (if 0 < bot then top else -top) (if bot < 0 then -bot else bot)) → Q' u6 H6) → sp__law_lowest [u5] H5 Q' E0 := fun t' H5 u5 et s5 q5 Q' kk => by
            subst et
            exact x_lowest q5 (.inl rfl) (L3.same s5) (by split <;> omega) (by split <;> omega) fun u6 H6 s6 q6 => kk u6 H6 (Same.trans s5 s6) q6
          have fin2 : ∀ (u6 : V) (H6 : Hp), Same H3 H6 → Rp [kp, sp] H6 u6 (lowD (if 0 < bot then top else -top) (if bot < 0 then -bot else bot)) →
              Wd (upd H6 kp (.lst (xs ++ [u6]))) row sp ∧ Rps [kp, sp] (upd H6 kp (.lst (xs ++ [u6]))) (xs ++ [u6]) ((fs ++ [((if 0 < bot then top else -top) / ((Nat.gcd (if 0 < bot then top else -top).natAbs (if bot < 0 then -bot else bot).natAbs : Nat) : Int), (if bot < 0 then -bot else bot) / ((Nat.gcd (if 0 < bot then top else -top).natAbs (if bot < 0 then -bot else bot).natAbs : Nat) : Int))]).map prD) := fun u6 H6 s6 q6 => by
            have kk : Kp [kp, sp] H6 (upd H6 kp (.lst (xs ++ [u6]))) := Kp.refl.mut (List.mem_cons_self ..)
            refine ⟨(W3.same s6).own ks kr, ?_⟩
            rw [List.map_append]
            exact rps_snoc (rps_kp (rps_same rk3 s6) kk) (q6.kp kk)
          have lens : xs.length < 1000 := by rw [rk3.1, List.length_map]; omega
          have nb := low_ok (a := if 0 < bot then top else -top) (b := if bot < 0 then -bot else bot) (by split <;> omega) (by split <;> omega)
          refine x_dec (fun c1 => ?_) (fun c1 => ?_)
          · walk_at "sts"
            refine x_mkT (ex := [kp, sp]) (ds := [.int top, .int (if bot < 0 then -bot else bot)]) (by walk_at "rps") L3 (by walk_at "len") fun u5 H5 s5 q5 => ?_
            walk_at "sts"
            refine fin top H5 u5 (by rw [if_pos c1]) s5 q5 _ fun u6 H6 s6 q6 => ?_
            walk_at "sts"
            refine x_so (rf.same s6) q6 (pr_dn (n := 2) (_, _)) ?_
            walk_at "sts"
            refine x_bmL (s6 _ _ hk3) ?_
            walk_at "sts"
            refine x_app (s6 _ _ hk3) (szl (by omega)) ?_
            obtain ⟨z1, z2⟩ := fin2 u6 H6 s6 q6
            refine ⟨_, _, _, rfl, z1, upd_same, z2, by simp, by simp; omega, fun p hp => ?_⟩
            rcases List.mem_append.mp hp with hp | hp
            · exact fb p hp
            · rw [List.mem_singleton.mp hp]; exact nb
          · walk_at "sts"
            refine x_mkT (ex := [kp, sp]) (ds := [.int (-top), .int (if bot < 0 then -bot else bot)]) (by walk_at "rps") L3 (by walk_at "len") fun u5 H5 s5 q5 => ?_
            walk_at "sts"
            refine fin (-top) H5 u5 (by rw [if_neg c1]) s5 q5 _ fun u6 H6 s6 q6 => ?_
            walk_at "sts"
            refine x_so (rf.same s6) q6 (pr_dn (n := 2) (_, _)) ?_
            walk_at "sts"
            refine x_bmL (s6 _ _ hk3) ?_
            walk_at "sts"
            refine x_app (s6 _ _ hk3) (szl (by omega)) ?_
            obtain ⟨z1, z2⟩ := fin2 u6 H6 s6 q6
            refine ⟨_, _, _, rfl, z1, upd_same, z2, by simp, by simp; omega, fun p hp => ?_⟩
            rcases List.mem_append.mp hp with hp | hp
            · exact fb p hp
            · rw [List.mem_singleton.mp hp]; exact nb
      · clear rf W3 hk3 L3 rk3 s3 L2
        rintro σ' H3 ⟨x8, xs, fs, rfl, W3, hk3, rk3, fne, fl, fb⟩
        have L3 : Live [kp, sp] H3 := W3.live.cons hk3
        walk_at "sts"
        refine x_mkT (ex := [kp, sp]) (ds := [.int 1]) (by walk_at "rps") L3 (by walk_at "len") fun u4 H4 s4 q4 => ?_
        have W4 := W3.same s4
        have hk4 := s4 _ _ hk3
        walk_at "sts"
        refine x_mkL (ex := [kp, sp]) (ds := [.non, .bl true, .str "1", .tup [.int 1], .bl (decide ((1 : Int) = 1))]) (by walk_at "rps") (W4.live.cons hk4) (by walk_at "len") fun u5 H5 s5 q5 => ?_
        have W5 := W4.same s5
        have hk5 := s5 _ _ hk4
        walk_at "sts"
        refine x_take W5 (by decide) fun r6 H6 a6 b6 k6 W6 => ?_
        have k6' : Kp [kp, sp] H5 H6 := k6.more
        have hk6 := k6 _ _ (not1 ks) hk5
        obtain ⟨bd, hbd⟩ : ∃ bd, ([.non, .bl true, .str "1", .tup [.int 1], .bl (decide ((1 : Int) = 1))] : List Da)[r6.toNat]? = some bd := get_ex (n := 5) (i := r6.toNat) rfl (by omega)
        have bi : bd.isInt = false := by
          have hm := List.mem_of_getElem? hbd
          simp only [List.mem_cons, List.not_mem_nil, or_false] at hm
          rcases hm with rfl | rfl | rfl | rfl | rfl <;> rfl
        refine x_ixR (i := r6.toNat) (q5.kp k6') (.inr rfl) hbd (by omega) fun bv rb => ?_
        have L6 : Live [kp, sp] H6 := W6.live.cons hk6
        walk_at "sts"
        refine ⟨[kp, sp], bv, .int 0, bd, .int 0, rfl, rb, .int _, L6, fun _ v7 H7 s7 r7 => ?_, fun z => absurd (bi.symm.trans z) (by decide), fun a b ea _ _ => absurd (by rw [ea]; rfl : bd.isInt = true) (by rw [bi]; decide)⟩
        have W7 := W6.same s7
        have hk7 := s7 _ _ hk6
        walk_at "sts"
        refine x_mkT (ex := [kp, sp]) (ds := [.str "bad", .int 0]) (by walk_at "rps") (L6.same s7) (by walk_at "len") fun u8 H8 s8 q8 => ?_
        have W8 := W7.same s8
        have hk8 := s8 _ _ hk7
        walk_at "sts"
        refine x_so (r7.same s8) q8 (bad_dn (n := 2) 0) ?_
        walk_at "sts"
        have L8 : Live [kp, sp] H8 := W8.live.cons hk8
        refine ⟨[kp, sp], .int top, bv, .int top, bd, rfl, .int _, by walk_at "rp", L8, fun z => absurd (show true = false from z) (by decide), fun _ _ v9 H9 s9 r9 => ?_, fun a b _ eb _ => absurd (by rw [eb]; rfl : bd.isInt = true) (by rw [bi]; decide)⟩
        have W9 := W8.same s9
        have hk9 := s9 _ _ hk8
        walk_at "sts"
        refine x_mkT (ex := [kp, sp]) (ds := [.str "bad", .int 1]) (by walk_at "rps") (L8.same s9) (by walk_at "len") fun u10 H10 s10 q10 => ?_
        have W10 := W9.same s10
        have hk10 := s10 _ _ hk9
        walk_at "sts"
        refine x_so (r9.same s10) q10 (bad_dn (n := 2) 1) ?_
        walk_at "sts"
        have rk10 : Rps [kp, sp] H10 xs (fs.map prD) := rps_same (rps_same (rps_same (rps_same (rps_kp (rps_same (rps_same rk3 s4) s5) k6') s7) s8) s9) s10
        have hfl : 0 < fs.length := List.length_pos_iff.mpr fne
        have hxl : xs.length = fs.length := by rw [rk10.1, List.length_map]
        refine x_lenL hk10 ?_
        walk_at "sts"
        refine x_take W10 (by omega) fun r11 H11 a11 b11 k11 W11 => ?_
        have k11' : Kp [kp, sp] H10 H11 := k11.more
        have hk11 := k11 _ _ (not1 ks) hk10
        have rk11 := rps_kp rk10 k11'
        have j1 : r11.toNat < fs.length := by omega
        obtain ⟨v1, g1, q1⟩ := rps_get rk11 (i := r11.toNat) (d := prD fs[r11.toNat]) (by rw [List.getElem?_map, List.getElem?_eq_getElem j1]; rfl)
        have f1 := fb _ (List.getElem_mem j1)
        refine x_ixL hk11 (at_of (j := r11.toNat) (by omega) g1) ?_
        generalize fs[r11.toNat] = p1 at q1 f1
        obtain ⟨a1, e1⟩ := p1
        dsimp only at f1
        walk_at "sts"
        refine x_lenL hk11 ?_
        walk_at "sts"
        refine x_take W11 (by omega) fun r12 H12 a12 b12 k12 W12 => ?_
        have k12' : Kp [kp, sp] H11 H12 := k12.more
        have hk12 := k12 _ _ (not1 ks) hk11
        have rk12 := rps_kp rk11 k12'
        have j2 : r12.toNat < fs.length := by omega
        obtain ⟨v2, g2, q2⟩ := rps_get rk12 (i := r12.toNat) (d := prD fs[r12.toNat]) (by rw [List.getElem?_map, List.getElem?_eq_getElem j2]; rfl)
        have f2 := fb _ (List.getElem_mem j2)
        refine x_ixL hk12 (at_of (j := r12.toNat) (by omega) g2) ?_
        generalize fs[r12.toNat] = p2 at q2 f2
        obtain ⟨a2, e2⟩ := p2
        dsimp only at f2
        have q1' := q1.kp k12'
        walk_at "sts"
        refine x_cut (fun σ' H' => σ' = [some (.ref a), some (.ref row), some (.ref sp), some (.ref kp), some (.int (i : Int)), some (.int top), some (.int bot), some fv, some (.int (cmpI a1 e1 a2 e2)), some bv, some v1, some v2] ∧ H' = H12) ?_ ?_
        · walk_at "sts"
          refine x_less q1' q2 (.inl rfl) (.inl rfl) ⟨by omega, by omega⟩ ⟨by omega, by omega⟩ ?_
          walk_at "sts"
          refine x_dec (fun c1 => ?_) (fun c1 => ?_)
          · walk_at "sts"
            refine ⟨?_, rfl⟩
            unfold cmpI
            rw [if_pos c1]
            rfl
          · walk_at "sts"
            refine x_less q2 q1' (.inl rfl) (.inl rfl) ⟨by omega, by omega⟩ ⟨by omega, by omega⟩ ?_
            walk_at "sts"
            refine x_dec (fun c2 => ?_) (fun c2 => ?_)
            · walk_at "sts"
              refine ⟨?_, rfl⟩
              unfold cmpI
              rw [if_neg c1, if_pos c2]
              rfl
            · walk_at "sts"
              refine ⟨?_, rfl⟩
              unfold cmpI
              rw [if_neg c1, if_neg c2]
              rfl
        · rintro σ' H' ⟨rfl, rfl⟩
          walk_at "sts"
          refine x_handed W12 q1'.tail (pr_dn (n := 1) _) fun v3 H13 d3 k13 W13 o3 q3 => ?_
          have q2t := q2.tail.kp k13
          have q1t := q1'.tail.kp k13
          walk_at "sts"
          refine ⟨rfl, rfl, x_compare q3 q2t (o3.elim (fun z => .inl (by rw [z]; rfl)) fun z => .inr (by rw [z]; rfl)) (.inl rfl) ⟨by omega, by omega⟩ ⟨by omega, by omega⟩ ?_⟩
          walk_at "sts"
          refine x_so (sp := [sp]) (.int _) (.int _) (.int _) ?_
          walk_at "sts"
          refine x_compare (a := a2) (b := e2) (c := a1) (e := e1) q2t q1t (.inl rfl) (.inl rfl) ⟨by omega, by omega⟩ ⟨by omega, by omega⟩ ?_
          rw [cmp_neg a1 e1 a2 e2]
          walk_at "sts"
          refine x_so (sp := [sp]) (.int _) (.int _) (.int _) ?_
          walk_at "sts"
          refine x_compare (a := a1) (b := e1) (c := a1) (e := e1) q1t q1t (.inl rfl) (.inl rfl) ⟨by omega, by omega⟩ ⟨by omega, by omega⟩ ?_
          rw [cmp_same a1 e1]
          walk_at "sts"
          refine x_so (sp := [sp]) (.int _) (.int _) (.int _) ?_
          walk_at "sts"
          exact ⟨_, _, _, _, _, _, _, _, xs, fs, rfl, W13, k13 _ _ (not1 ks) hk12, rps_kp rk12 k13.more, fne, fl, fb⟩
    · rintro σ H' ⟨x4, x5, x6, x7, x8, x9, x10, x11, xs, fs, rfl, W, _⟩
      walk_at "sts"
      exact k _
end
theorem all_mk {l : PySem.W.OpenLaw} {w : World} {K : PySem.W.Frag} {h : Heap} {mg : Str → Option Value} {fa : Addr} (X : K.In h) (G : h.Ns mainGlobals mg) (hfa : mg "law" = some (.ref fa))
    {f_is_integer : Addr} {od_is_integer an_is_integer : Option Addr} {sl_is_integer : Array (Option Value)} {oc_is_integer kV_is_integer dc_is_integer pm_is_integer cd_is_integer ct_is_integer : Value}
    {f_fraction_of : Addr} {od_fraction_of an_fraction_of : Option Addr} {sl_fraction_of : Array (Option Value)} {oc_fraction_of kV_fraction_of dc_fraction_of pm_fraction_of cd_fraction_of ct_fraction_of : Value}
    {f_compare_moments : Addr} {od_compare_moments an_compare_moments : Option Addr} {sl_compare_moments : Array (Option Value)} {oc_compare_moments kV_compare_moments dc_compare_moments pm_compare_moments cd_compare_moments ct_compare_moments : Value}
    {f__law_so : Addr} {od__law_so an__law_so : Option Addr} {sl__law_so : Array (Option Value)} {oc__law_so kV__law_so dc__law_so pm__law_so cd__law_so ct__law_so : Value}
    {f__law_numbers : Addr} {od__law_numbers an__law_numbers : Option Addr} {sl__law_numbers : Array (Option Value)} {oc__law_numbers kV__law_numbers dc__law_numbers pm__law_numbers cd__law_numbers ct__law_numbers : Value}
    {f__law_draw : Addr} {od__law_draw an__law_draw : Option Addr} {sl__law_draw : Array (Option Value)} {oc__law_draw kV__law_draw dc__law_draw pm__law_draw cd__law_draw ct__law_draw : Value}
    {f__law_take : Addr} {od__law_take an__law_take : Option Addr} {sl__law_take : Array (Option Value)} {oc__law_take kV__law_take dc__law_take pm__law_take cd__law_take ct__law_take : Value}
    {f__law_wide : Addr} {od__law_wide an__law_wide : Option Addr} {sl__law_wide : Array (Option Value)} {oc__law_wide kV__law_wide dc__law_wide pm__law_wide cd__law_wide ct__law_wide : Value}
    {f__law_listed : Addr} {od__law_listed an__law_listed : Option Addr} {sl__law_listed : Array (Option Value)} {oc__law_listed kV__law_listed dc__law_listed pm__law_listed cd__law_listed ct__law_listed : Value}
    {f__law_handed : Addr} {od__law_handed an__law_handed : Option Addr} {sl__law_handed : Array (Option Value)} {oc__law_handed kV__law_handed dc__law_handed pm__law_handed cd__law_handed ct__law_handed : Value}
    {f__law_less : Addr} {od__law_less an__law_less : Option Addr} {sl__law_less : Array (Option Value)} {oc__law_less kV__law_less dc__law_less pm__law_less cd__law_less ct__law_less : Value}
    {f__law_lowest : Addr} {od__law_lowest an__law_lowest : Option Addr} {sl__law_lowest : Array (Option Value)} {oc__law_lowest kV__law_lowest dc__law_lowest pm__law_lowest cd__law_lowest ct__law_lowest : Value}
    {f__law_made : Addr} {od__law_made an__law_made : Option Addr} {sl__law_made : Array (Option Value)} {oc__law_made kV__law_made dc__law_made pm__law_made cd__law_made ct__law_made : Value}
    {f__law_integer : Addr} {od__law_integer an__law_integer : Option Addr} {sl__law_integer : Array (Option Value)} {oc__law_integer kV__law_integer dc__law_integer pm__law_integer cd__law_integer ct__law_integer : Value}
    {f_law : Addr} {od_law an_law : Option Addr} {sl_law : Array (Option Value)} {oc_law kV_law dc_law pm_law cd_law ct_law : Value}
    {C_BadValue fI_BadValue N_BadValue S_BadValue : Addr} {od_eBadValue an_eBadValue dd_BadValue : Option Addr} {sl_eBadValue : Array (Option Value)} {oc_eBadValue dc_eBadValue pm_eBadValue cd_eBadValue ct_eBadValue : Value} {nm_BadValue q_BadValue : Str} {bs_BadValue sub_BadValue : List Value} {sn_BadValue : List Str} {ab_BadValue : Bool} {col_BadValue : Option Bool} {m0_BadValue m1_BadValue m2_BadValue m3_BadValue m5_BadValue : Option Value} {p1_BadValue p2_BadValue q1_BadValue q2_BadValue q3_BadValue q4_BadValue : Pos}
    (a_is_integer : PySem.W.nsIn K mainGlobals "is_integer" = some (some (.ref f_is_integer))) (l_is_integer : K.lookup f_is_integer = some ⟨oc_is_integer, od_is_integer, .func (PySem.W.fnOf "is_integer" "is_integer" (defArgs s_is_integer) (defBody s_is_integer) (defScope s_is_integer) .none kV_is_integer dc_is_integer pm_is_integer an_is_integer cd_is_integer ct_is_integer), sl_is_integer⟩) (c_is_integer : PySem.W.codeIn K cd_is_integer "is_integer" = true) (k_is_integer : PySem.W.keepIn K (.ref f_is_integer) = true)
    (a_fraction_of : PySem.W.nsIn K mainGlobals "fraction_of" = some (some (.ref f_fraction_of))) (l_fraction_of : K.lookup f_fraction_of = some ⟨oc_fraction_of, od_fraction_of, .func (PySem.W.fnOf "fraction_of" "fraction_of" (defArgs s_fraction_of) (defBody s_fraction_of) (defScope s_fraction_of) .none kV_fraction_of dc_fraction_of pm_fraction_of an_fraction_of cd_fraction_of ct_fraction_of), sl_fraction_of⟩) (c_fraction_of : PySem.W.codeIn K cd_fraction_of "fraction_of" = true) (k_fraction_of : PySem.W.keepIn K (.ref f_fraction_of) = true)
    (a_compare_moments : PySem.W.nsIn K mainGlobals "compare_moments" = some (some (.ref f_compare_moments))) (l_compare_moments : K.lookup f_compare_moments = some ⟨oc_compare_moments, od_compare_moments, .func (PySem.W.fnOf "compare_moments" "compare_moments" (defArgs s_compare_moments) (defBody s_compare_moments) (defScope s_compare_moments) .none kV_compare_moments dc_compare_moments pm_compare_moments an_compare_moments cd_compare_moments ct_compare_moments), sl_compare_moments⟩) (c_compare_moments : PySem.W.codeIn K cd_compare_moments "compare_moments" = true) (k_compare_moments : PySem.W.keepIn K (.ref f_compare_moments) = true)
    (a__law_so : PySem.W.nsIn K mainGlobals "_law_so" = some (some (.ref f__law_so))) (l__law_so : K.lookup f__law_so = some ⟨oc__law_so, od__law_so, .func (PySem.W.fnOf "_law_so" "_law_so" (defArgs s__law_so) (defBody s__law_so) (defScope s__law_so) .none kV__law_so dc__law_so pm__law_so an__law_so cd__law_so ct__law_so), sl__law_so⟩) (c__law_so : PySem.W.codeIn K cd__law_so "_law_so" = true) (k__law_so : PySem.W.keepIn K (.ref f__law_so) = true)
    (a__law_numbers : PySem.W.nsIn K mainGlobals "_law_numbers" = some (some (.ref f__law_numbers))) (l__law_numbers : K.lookup f__law_numbers = some ⟨oc__law_numbers, od__law_numbers, .func (PySem.W.fnOf "_law_numbers" "_law_numbers" (defArgs s__law_numbers) (defBody s__law_numbers) (defScope s__law_numbers) .none kV__law_numbers dc__law_numbers pm__law_numbers an__law_numbers cd__law_numbers ct__law_numbers), sl__law_numbers⟩) (c__law_numbers : PySem.W.codeIn K cd__law_numbers "_law_numbers" = true) (k__law_numbers : PySem.W.keepIn K (.ref f__law_numbers) = true)
    (a__law_draw : PySem.W.nsIn K mainGlobals "_law_draw" = some (some (.ref f__law_draw))) (l__law_draw : K.lookup f__law_draw = some ⟨oc__law_draw, od__law_draw, .func (PySem.W.fnOf "_law_draw" "_law_draw" (defArgs s__law_draw) (defBody s__law_draw) (defScope s__law_draw) .none kV__law_draw dc__law_draw pm__law_draw an__law_draw cd__law_draw ct__law_draw), sl__law_draw⟩) (c__law_draw : PySem.W.codeIn K cd__law_draw "_law_draw" = true) (k__law_draw : PySem.W.keepIn K (.ref f__law_draw) = true)
    (a__law_take : PySem.W.nsIn K mainGlobals "_law_take" = some (some (.ref f__law_take))) (l__law_take : K.lookup f__law_take = some ⟨oc__law_take, od__law_take, .func (PySem.W.fnOf "_law_take" "_law_take" (defArgs s__law_take) (defBody s__law_take) (defScope s__law_take) .none kV__law_take dc__law_take pm__law_take an__law_take cd__law_take ct__law_take), sl__law_take⟩) (c__law_take : PySem.W.codeIn K cd__law_take "_law_take" = true) (k__law_take : PySem.W.keepIn K (.ref f__law_take) = true)
    (a__law_wide : PySem.W.nsIn K mainGlobals "_law_wide" = some (some (.ref f__law_wide))) (l__law_wide : K.lookup f__law_wide = some ⟨oc__law_wide, od__law_wide, .func (PySem.W.fnOf "_law_wide" "_law_wide" (defArgs s__law_wide) (defBody s__law_wide) (defScope s__law_wide) .none kV__law_wide dc__law_wide pm__law_wide an__law_wide cd__law_wide ct__law_wide), sl__law_wide⟩) (c__law_wide : PySem.W.codeIn K cd__law_wide "_law_wide" = true) (k__law_wide : PySem.W.keepIn K (.ref f__law_wide) = true)
    (a__law_listed : PySem.W.nsIn K mainGlobals "_law_listed" = some (some (.ref f__law_listed))) (l__law_listed : K.lookup f__law_listed = some ⟨oc__law_listed, od__law_listed, .func (PySem.W.fnOf "_law_listed" "_law_listed" (defArgs s__law_listed) (defBody s__law_listed) (defScope s__law_listed) .none kV__law_listed dc__law_listed pm__law_listed an__law_listed cd__law_listed ct__law_listed), sl__law_listed⟩) (c__law_listed : PySem.W.codeIn K cd__law_listed "_law_listed" = true) (k__law_listed : PySem.W.keepIn K (.ref f__law_listed) = true)
    (a__law_handed : PySem.W.nsIn K mainGlobals "_law_handed" = some (some (.ref f__law_handed))) (l__law_handed : K.lookup f__law_handed = some ⟨oc__law_handed, od__law_handed, .func (PySem.W.fnOf "_law_handed" "_law_handed" (defArgs s__law_handed) (defBody s__law_handed) (defScope s__law_handed) .none kV__law_handed dc__law_handed pm__law_handed an__law_handed cd__law_handed ct__law_handed), sl__law_handed⟩) (c__law_handed : PySem.W.codeIn K cd__law_handed "_law_handed" = true) (k__law_handed : PySem.W.keepIn K (.ref f__law_handed) = true)
    (a__law_less : PySem.W.nsIn K mainGlobals "_law_less" = some (some (.ref f__law_less))) (l__law_less : K.lookup f__law_less = some ⟨oc__law_less, od__law_less, .func (PySem.W.fnOf "_law_less" "_law_less" (defArgs s__law_less) (defBody s__law_less) (defScope s__law_less) .none kV__law_less dc__law_less pm__law_less an__law_less cd__law_less ct__law_less), sl__law_less⟩) (c__law_less : PySem.W.codeIn K cd__law_less "_law_less" = true) (k__law_less : PySem.W.keepIn K (.ref f__law_less) = true)
    (a__law_lowest : PySem.W.nsIn K mainGlobals "_law_lowest" = some (some (.ref f__law_lowest))) (l__law_lowest : K.lookup f__law_lowest = some ⟨oc__law_lowest, od__law_lowest, .func (PySem.W.fnOf "_law_lowest" "_law_lowest" (defArgs s__law_lowest) (defBody s__law_lowest) (defScope s__law_lowest) .none kV__law_lowest dc__law_lowest pm__law_lowest an__law_lowest cd__law_lowest ct__law_lowest), sl__law_lowest⟩) (c__law_lowest : PySem.W.codeIn K cd__law_lowest "_law_lowest" = true) (k__law_lowest : PySem.W.keepIn K (.ref f__law_lowest) = true)
    (a__law_made : PySem.W.nsIn K mainGlobals "_law_made" = some (some (.ref f__law_made))) (l__law_made : K.lookup f__law_made = some ⟨oc__law_made, od__law_made, .func (PySem.W.fnOf "_law_made" "_law_made" (defArgs s__law_made) (defBody s__law_made) (defScope s__law_made) .none kV__law_made dc__law_made pm__law_made an__law_made cd__law_made ct__law_made), sl__law_made⟩) (c__law_made : PySem.W.codeIn K cd__law_made "_law_made" = true) (k__law_made : PySem.W.keepIn K (.ref f__law_made) = true)
    (a__law_integer : PySem.W.nsIn K mainGlobals "_law_integer" = some (some (.ref f__law_integer))) (l__law_integer : K.lookup f__law_integer = some ⟨oc__law_integer, od__law_integer, .func (PySem.W.fnOf "_law_integer" "_law_integer" (defArgs s__law_integer) (defBody s__law_integer) (defScope s__law_integer) .none kV__law_integer dc__law_integer pm__law_integer an__law_integer cd__law_integer ct__law_integer), sl__law_integer⟩) (c__law_integer : PySem.W.codeIn K cd__law_integer "_law_integer" = true) (k__law_integer : PySem.W.keepIn K (.ref f__law_integer) = true)
    (a_law : PySem.W.nsIn K mainGlobals "law" = some (some (.ref f_law))) (l_law : K.lookup f_law = some ⟨oc_law, od_law, .func (PySem.W.fnOf "law" "law" (defArgs s_law) (defBody s_law) (defScope s_law) .none kV_law dc_law pm_law an_law cd_law ct_law), sl_law⟩) (c_law : PySem.W.codeIn K cd_law "law" = true) (k_law : PySem.W.keepIn K (.ref f_law) = true)
    (ea_BadValue : PySem.W.nsIn K mainGlobals "BadValue" = some (some (.ref C_BadValue)))
    (ex_BadValue : K.lookup C_BadValue = some (excClassObj nm_BadValue q_BadValue C_BadValue N_BadValue bs_BadValue [.ref S_BadValue, .type "Exception", .type "BaseException", .type "object"] true sn_BadValue sub_BadValue ab_BadValue col_BadValue dd_BadValue m0_BadValue m1_BadValue m2_BadValue m3_BadValue m5_BadValue "Exception.__new__"))
    (es_BadValue : PySem.W.findIn K (.ref C_BadValue) "__setattr__" = some (some (.builtin "object.__setattr__"))) (eg_BadValue : PySem.W.findIn K (.ref C_BadValue) "__getattribute__" = some (some (.builtin "BaseException.__getattribute__"))) (eh_BadValue : PySem.W.findIn K (.ref C_BadValue) "__getattr__" = some none) (en_BadValue : PySem.W.findIn K (.ref C_BadValue) "at" = some none)
    (ei_BadValue : PySem.W.findIn K (.ref C_BadValue) "__init__" = some (some (.ref fI_BadValue))) (et_BadValue : PySem.W.typeIn K (.ref fI_BadValue) = some (.type "function"))
    (el_BadValue : K.lookup fI_BadValue = some ⟨oc_eBadValue, od_eBadValue, .func (PySem.W.fnOf "__init__" "BadValue.__init__" (Eat.iA p1_BadValue p2_BadValue) (Eat.iB q1_BadValue q2_BadValue q3_BadValue q4_BadValue) Eat.iS .none .none dc_eBadValue pm_eBadValue an_eBadValue cd_eBadValue ct_eBadValue), sl_eBadValue⟩) (ec_BadValue : PySem.W.codeIn K cd_eBadValue "BadValue.__init__" = true)
    (ek_BadValue : PySem.W.keepIn K (.ref C_BadValue) = true) (eb_BadValue : PySem.W.subIn K (.ref C_BadValue) (.type "BaseException") = some true) (ey_BadValue : PySem.W.typeIn K (.ref C_BadValue) = some (.type "type")) (ed_BadValue : PySem.W.hasDictIn K C_BadValue = true) (ez_BadValue : PySem.W.isClsIn K C_BadValue = true) (ew_BadValue : PySem.W.subIn K (.ref C_BadValue) (.ref C_BadValue) = some true)
    (z_gcd : PySem.W.nsIn K mainGlobals "gcd" = some (some (.builtin "math.gcd")))
    (z_abs : PySem.W.nsIn K mainGlobals "abs" = some none)
    (z_bool : PySem.W.nsIn K mainGlobals "bool" = some none)
    (z_int : PySem.W.nsIn K mainGlobals "int" = some none)
    (z_isinstance : PySem.W.nsIn K mainGlobals "isinstance" = some none)
    (z_len : PySem.W.nsIn K mainGlobals "len" = some none)
    (z_range : PySem.W.nsIn K mainGlobals "range" = some none)
    (z_str : PySem.W.nsIn K mainGlobals "str" = some none)
    (z_tuple : PySem.W.nsIn K mainGlobals "tuple" = some none) :
    ∃ fd : FuncData, (∀ (s : Shared) (v : Value), BindsTo s fd ⟨[v], []⟩ [("script", v)]) ∧ ∀ base : Heap, K.In base → base.Ns mainGlobals mg → FnOk l.prog w K mg base CX0 5 fa fd ["script"] (sp_law K) := by
  have e := hfa.symm.trans (PySem.W.mg_of X G a_law)
  cases e
  have T : Txt K mg C_BadValue fI_BadValue := { e_BadValue := { gC := PySem.W.mg_of X G ea_BadValue, cls := ⟨nm_BadValue, q_BadValue, N_BadValue, bs_BadValue, _, sn_BadValue, sub_BadValue, ab_BadValue, col_BadValue, dd_BadValue, m0_BadValue, m1_BadValue, m2_BadValue, m3_BadValue, m5_BadValue, ex_BadValue, (show exRow exEnd = true by decide +kernel)⟩, sa := es_BadValue, ga := eg_BadValue, gg := eh_BadValue, noN := en_BadValue, iC := ei_BadValue, tC := et_BadValue, kC := ek_BadValue, exC := eb_BadValue, tyC := ey_BadValue, hdC := ed_BadValue, te := names_self eb_BadValue ez_BadValue ey_BadValue ew_BadValue, fn := ⟨_, _, _, _, _, _, _, _, _, _, _, _, _, _, el_BadValue, ec_BadValue⟩ }, i_gcd := PySem.W.mg_of X G z_gcd, b_abs := PySem.W.mg_none_of X G z_abs, b_bool := PySem.W.mg_none_of X G z_bool, b_int := PySem.W.mg_none_of X G z_int, b_isinstance := PySem.W.mg_none_of X G z_isinstance, b_len := PySem.W.mg_none_of X G z_len, b_range := PySem.W.mg_none_of X G z_range, b_str := PySem.W.mg_none_of X G z_str, b_tuple := PySem.W.mg_none_of X G z_tuple }
  have F_is_integer := fun_mk (st := s_is_integer) l_is_integer c_is_integer k_is_integer
  have b_is_integer := F_is_integer.binds (ps := ["value"]) fun _ _ _ _ _ _ us hl => match us, hl with | [_], _ => rfl
  have m_is_integer := PySem.W.mg_of X G a_is_integer
  have F_fraction_of := fun_mk (st := s_fraction_of) l_fraction_of c_fraction_of k_fraction_of
  have b_fraction_of := F_fraction_of.binds (ps := ["top", "bottom"]) fun _ _ _ _ _ _ us hl => match us, hl with | [_, _], _ => rfl
  have m_fraction_of := PySem.W.mg_of X G a_fraction_of
  have F_compare_moments := fun_mk (st := s_compare_moments) l_compare_moments c_compare_moments k_compare_moments
  have b_compare_moments := F_compare_moments.binds (ps := ["one", "other"]) fun _ _ _ _ _ _ us hl => match us, hl with | [_, _], _ => rfl
  have m_compare_moments := PySem.W.mg_of X G a_compare_moments
  have F__law_so := fun_mk (st := s__law_so) l__law_so c__law_so k__law_so
  have b__law_so := F__law_so.binds (ps := ["found", "meant"]) fun _ _ _ _ _ _ us hl => match us, hl with | [_, _], _ => rfl
  have m__law_so := PySem.W.mg_of X G a__law_so
  have F__law_numbers := fun_mk (st := s__law_numbers) l__law_numbers c__law_numbers k__law_numbers
  have b__law_numbers := F__law_numbers.binds (ps := ["script"]) fun _ _ _ _ _ _ us hl => match us, hl with | [_], _ => rfl
  have m__law_numbers := PySem.W.mg_of X G a__law_numbers
  have F__law_draw := fun_mk (st := s__law_draw) l__law_draw c__law_draw k__law_draw
  have b__law_draw := F__law_draw.binds (ps := ["row", "at", "limit"]) fun _ _ _ _ _ _ us hl => match us, hl with | [_, _, _], _ => rfl
  have m__law_draw := PySem.W.mg_of X G a__law_draw
  have F__law_take := fun_mk (st := s__law_take) l__law_take c__law_take k__law_take
  have b__law_take := F__law_take.binds (ps := ["row", "spot", "limit"]) fun _ _ _ _ _ _ us hl => match us, hl with | [_, _, _], _ => rfl
  have m__law_take := PySem.W.mg_of X G a__law_take
  have F__law_wide := fun_mk (st := s__law_wide) l__law_wide c__law_wide k__law_wide
  have b__law_wide := F__law_wide.binds (ps := ["row", "spot", "limit"]) fun _ _ _ _ _ _ us hl => match us, hl with | [_, _, _], _ => rfl
  have m__law_wide := PySem.W.mg_of X G a__law_wide
  have F__law_listed := fun_mk (st := s__law_listed) l__law_listed c__law_listed k__law_listed
  have b__law_listed := F__law_listed.binds (ps := ["value"]) fun _ _ _ _ _ _ us hl => match us, hl with | [_], _ => rfl
  have m__law_listed := PySem.W.mg_of X G a__law_listed
  have F__law_handed := fun_mk (st := s__law_handed) l__law_handed c__law_handed k__law_handed
  have b__law_handed := F__law_handed.binds (ps := ["row", "spot", "value"]) fun _ _ _ _ _ _ us hl => match us, hl with | [_, _, _], _ => rfl
  have m__law_handed := PySem.W.mg_of X G a__law_handed
  have F__law_less := fun_mk (st := s__law_less) l__law_less c__law_less k__law_less
  have b__law_less := F__law_less.binds (ps := ["one", "other"]) fun _ _ _ _ _ _ us hl => match us, hl with | [_, _], _ => rfl
  have m__law_less := PySem.W.mg_of X G a__law_less
  have F__law_lowest := fun_mk (st := s__law_lowest) l__law_lowest c__law_lowest k__law_lowest
  have b__law_lowest := F__law_lowest.binds (ps := ["part"]) fun _ _ _ _ _ _ us hl => match us, hl with | [_], _ => rfl
  have m__law_lowest := PySem.W.mg_of X G a__law_lowest
  have F__law_made := fun_mk (st := s__law_made) l__law_made c__law_made k__law_made
  have b__law_made := F__law_made.binds (ps := ["top", "bottom"]) fun _ _ _ _ _ _ us hl => match us, hl with | [_, _], _ => rfl
  have m__law_made := PySem.W.mg_of X G a__law_made
  have F__law_integer := fun_mk (st := s__law_integer) l__law_integer c__law_integer k__law_integer
  have b__law_integer := F__law_integer.binds (ps := ["row", "spot"]) fun _ _ _ _ _ _ us hl => match us, hl with | [_, _], _ => rfl
  have m__law_integer := PySem.W.mg_of X G a__law_integer
  have F_law := fun_mk (st := s_law) l_law c_law k_law
  have b_law := F_law.binds (ps := ["script"]) fun _ _ _ _ _ _ us hl => match us, hl with | [_], _ => rfl
  have m_law := PySem.W.mg_of X G a_law
  refine ⟨PySem.W.fnOf "law" "law" (defArgs s_law) (defBody s_law) (defScope s_law) .none kV_law dc_law pm_law an_law cd_law ct_law, fun s v => .of_eq rfl, fun base _ _ => ?_⟩
  have Q_is_integer := ok_is_integer (P := l.prog) (w := w) (base := base) F_is_integer T 
  have O_is_integer : Ok l.prog w K mg base 1 "is_integer" ["value"] (sp_is_integer) := ⟨_, _, Q_is_integer, m_is_integer, F_is_integer.kp, b_is_integer⟩
  have Q_fraction_of := ok_fraction_of (P := l.prog) (w := w) (base := base) F_fraction_of T O_is_integer
  have O_fraction_of : OkX l.prog w K mg base 3 "fraction_of" ["top", "bottom"] (sp_fraction_of C_BadValue) := ⟨_, _, Q_fraction_of, m_fraction_of, F_fraction_of.kp, b_fraction_of⟩
  have kb_fraction_of_0_bottom_top : OkXK l.prog w K mg base 3 "fraction_of" ["top", "bottom"] (sp_fraction_of C_BadValue) 0 ["bottom", "top"] [1, 0] := ⟨_, _, Q_fraction_of, m_fraction_of, F_fraction_of.kp, fun us ws h1 h2 => match us, ws, h1, h2 with | [], [_, _], _, _ => rfl⟩
  have Q_compare_moments := ok_compare_moments (P := l.prog) (w := w) (base := base) F_compare_moments T 
  have O_compare_moments : Ok l.prog w K mg base 1 "compare_moments" ["one", "other"] (sp_compare_moments) := ⟨_, _, Q_compare_moments, m_compare_moments, F_compare_moments.kp, b_compare_moments⟩
  have kb_compare_moments_0_other_one : OkK l.prog w K mg base 1 "compare_moments" ["one", "other"] (sp_compare_moments) 0 ["other", "one"] [1, 0] := ⟨_, _, Q_compare_moments, m_compare_moments, F_compare_moments.kp, fun us ws h1 h2 => match us, ws, h1, h2 with | [], [_, _], _, _ => rfl⟩
  have O__law_so : Ok l.prog w K mg base 4 "_law_so" ["found", "meant"] (sp__law_so 4) := rok__law_so F__law_so T m__law_so b__law_so 4
  have Q__law_numbers := ok__law_numbers (P := l.prog) (w := w) (base := base) F__law_numbers T 
  have O__law_numbers : Ok l.prog w K mg base 1 "_law_numbers" ["script"] (sp__law_numbers K) := ⟨_, _, Q__law_numbers, m__law_numbers, F__law_numbers.kp, b__law_numbers⟩
  have Q__law_draw := ok__law_draw (P := l.prog) (w := w) (base := base) F__law_draw T 
  have O__law_draw : Ok l.prog w K mg base 1 "_law_draw" ["row", "at", "limit"] (sp__law_draw) := ⟨_, _, Q__law_draw, m__law_draw, F__law_draw.kp, b__law_draw⟩
  have Q__law_take := ok__law_take (P := l.prog) (w := w) (base := base) F__law_take T O__law_draw
  have O__law_take : Ok l.prog w K mg base 2 "_law_take" ["row", "spot", "limit"] (sp__law_take) := ⟨_, _, Q__law_take, m__law_take, F__law_take.kp, b__law_take⟩
  have Q__law_wide := ok__law_wide (P := l.prog) (w := w) (base := base) F__law_wide T O__law_take
  have O__law_wide : Ok l.prog w K mg base 3 "_law_wide" ["row", "spot", "limit"] (sp__law_wide) := ⟨_, _, Q__law_wide, m__law_wide, F__law_wide.kp, b__law_wide⟩
  have O__law_listed : Ok l.prog w K mg base 3 "_law_listed" ["value"] (sp__law_listed 3) := rok__law_listed F__law_listed T m__law_listed b__law_listed 3
  have Q__law_handed := ok__law_handed (P := l.prog) (w := w) (base := base) F__law_handed T O__law_listed O__law_take
  have O__law_handed : Ok l.prog w K mg base 4 "_law_handed" ["row", "spot", "value"] (sp__law_handed) := ⟨_, _, Q__law_handed, m__law_handed, F__law_handed.kp, b__law_handed⟩
  have Q__law_less := ok__law_less (P := l.prog) (w := w) (base := base) F__law_less T 
  have O__law_less : Ok l.prog w K mg base 1 "_law_less" ["one", "other"] (sp__law_less) := ⟨_, _, Q__law_less, m__law_less, F__law_less.kp, b__law_less⟩
  have Q__law_lowest := ok__law_lowest (P := l.prog) (w := w) (base := base) F__law_lowest T 
  have O__law_lowest : Ok l.prog w K mg base 1 "_law_lowest" ["part"] (sp__law_lowest) := ⟨_, _, Q__law_lowest, m__law_lowest, F__law_lowest.kp, b__law_lowest⟩
  have Q__law_made := ok__law_made (P := l.prog) (w := w) (base := base) F__law_made T kb_fraction_of_0_bottom_top
  have O__law_made : Ok l.prog w K mg base 4 "_law_made" ["top", "bottom"] (sp__law_made) := ⟨_, _, Q__law_made, m__law_made, F__law_made.kp, b__law_made⟩
  have Q__law_integer := ok__law_integer (P := l.prog) (w := w) (base := base) F__law_integer T O__law_take O__law_wide
  have O__law_integer : Ok l.prog w K mg base 4 "_law_integer" ["row", "spot"] (sp__law_integer) := ⟨_, _, Q__law_integer, m__law_integer, F__law_integer.kp, b__law_integer⟩
  exact ok_law F_law T O__law_handed O__law_integer O__law_less O__law_lowest O__law_made O__law_numbers O__law_so O__law_take O_compare_moments kb_compare_moments_0_other_one
theorem walk {l : PySem.W.OpenLaw} {q : Program} {loose : List Str} {XP : (Str → Option Value) → Heap → Prop} {YP : World → Heap → Prop} {d : DefRec} {K : Params → PySem.W.Frag} (hn : l.most = some 63) (hdf : d.params.defaults = [])
    (hY : ∀ (w : World) (h : Heap), YP w h → (K w.params).In h)
    (F : ∀ (w : World) (mg : Str → Option Value) (fa : Addr) (h : Heap), (K w.params).In h → h.Ns mainGlobals mg → mg d.name = some (.ref fa) →
      ∃ fd : FuncData, (∀ (s : Shared) (u : Value), BindsTo s fd ⟨[u], []⟩ [("script", u)]) ∧ ∀ base : Heap, (K w.params).In base → base.Ns mainGlobals mg → FnOk l.prog w (K w.params) mg base CX0 5 fa fd ["script"] (sp_law (K w.params))) :
    PySem.W.WalkO q loose XP YP l.row.toRowW d [] (fun f vs => PySem.call f vs) :=
  L2.walk_of (n := 63) (k := 5) (x := "script") (CX := fun _ => CX0) (sp := fun w => sp_law (K w.params)) hn (by decide) hdf ⟨rfl, by decide, by decide⟩ hY F (fun _ _ a ns hl hO hS => ⟨a, ns, rfl, hS, hl, fun _ => rfl⟩) fun _ _ _ _ _ z => z
end Bx
open PySem PySem.W PyProof.Rows
set_option maxRecDepth 100000 in
set_option maxHeartbeats 0 in
theorem PySem.Challenge.cw_boundstead_k88_fractions_holds : PySem.Challenge.rw_boundstead_k88_fractions.Holds := by
  w_on; o_law; k_head; (case hw => w_witness2)
  k_fill
  refine Bx.walk (l := PySem.Challenge.rw_boundstead_k88_fractions) rfl rfl (fun w h Y => PySem.W.kIn_of Y) ?F
  case F =>
    intro w mg fa h KX G hmg
    refine' Bx.all_mk KX G hmg ?a_is_integer ?l_is_integer ?c_is_integer ?k_is_integer ?a_fraction_of ?l_fraction_of ?c_fraction_of ?k_fraction_of ?a_compare_moments ?l_compare_moments ?c_compare_moments ?k_compare_moments ?a__law_so ?l__law_so ?c__law_so ?k__law_so ?a__law_numbers ?l__law_numbers ?c__law_numbers ?k__law_numbers ?a__law_draw ?l__law_draw ?c__law_draw ?k__law_draw ?a__law_take ?l__law_take ?c__law_take ?k__law_take ?a__law_wide ?l__law_wide ?c__law_wide ?k__law_wide ?a__law_listed ?l__law_listed ?c__law_listed ?k__law_listed ?a__law_handed ?l__law_handed ?c__law_handed ?k__law_handed ?a__law_less ?l__law_less ?c__law_less ?k__law_less ?a__law_lowest ?l__law_lowest ?c__law_lowest ?k__law_lowest ?a__law_made ?l__law_made ?c__law_made ?k__law_made ?a__law_integer ?l__law_integer ?c__law_integer ?k__law_integer ?a_law ?l_law ?c_law ?k_law ?ea_BadValue ?ex_BadValue ?es_BadValue ?eg_BadValue ?eh_BadValue ?en_BadValue ?ei_BadValue ?et_BadValue ?el_BadValue ?ec_BadValue ?ek_BadValue ?eb_BadValue ?ey_BadValue ?ed_BadValue ?ez_BadValue ?ew_BadValue ?z_gcd ?z_abs ?z_bool ?z_int ?z_isinstance ?z_len ?z_range ?z_str ?z_tuple
    (case a_is_integer => k_is); (case l_is_integer => k_is); (case c_is_integer => k_is); (case k_is_integer => k_is); (case a_fraction_of => k_is); (case l_fraction_of => k_is)
    (case c_fraction_of => k_is); (case k_fraction_of => k_is); (case a_compare_moments => k_is); (case l_compare_moments => k_is); (case c_compare_moments => k_is); (case k_compare_moments => k_is)
    (case a__law_so => k_is); (case l__law_so => k_is); (case c__law_so => k_is); (case k__law_so => k_is); (case a__law_numbers => k_is); (case l__law_numbers => k_is)
    (case c__law_numbers => k_is); (case k__law_numbers => k_is); (case a__law_draw => k_is); (case l__law_draw => k_is); (case c__law_draw => k_is); (case k__law_draw => k_is)
    (case a__law_take => k_is); (case l__law_take => k_is); (case c__law_take => k_is); (case k__law_take => k_is); (case a__law_wide => k_is); (case l__law_wide => k_is)
    (case c__law_wide => k_is); (case k__law_wide => k_is); (case a__law_listed => k_is); (case l__law_listed => k_is); (case c__law_listed => k_is); (case k__law_listed => k_is)
    (case a__law_handed => k_is); (case l__law_handed => k_is); (case c__law_handed => k_is); (case k__law_handed => k_is); (case a__law_less => k_is); (case l__law_less => k_is)
    (case c__law_less => k_is); (case k__law_less => k_is); (case a__law_lowest => k_is); (case l__law_lowest => k_is); (case c__law_lowest => k_is); (case k__law_lowest => k_is)
    (case a__law_made => k_is); (case l__law_made => k_is); (case c__law_made => k_is); (case k__law_made => k_is); (case a__law_integer => k_is); (case l__law_integer => k_is)
    (case c__law_integer => k_is); (case k__law_integer => k_is); (case a_law => k_is); (case l_law => k_is); (case c_law => k_is); (case k_law => k_is)
    (case ea_BadValue => k_is); (case ex_BadValue => k_is); (case es_BadValue => k_is); (case eg_BadValue => k_is); (case eh_BadValue => k_is); (case en_BadValue => k_is)
    (case ei_BadValue => k_is); (case et_BadValue => k_is); (case el_BadValue => k_is); (case ec_BadValue => k_is); (case ek_BadValue => k_is); (case eb_BadValue => k_is)
    (case ey_BadValue => k_is); (case ed_BadValue => k_is); (case ez_BadValue => k_is); (case ew_BadValue => first | rfl | k_is); (case z_gcd => k_is); (case z_abs => k_is)
    (case z_bool => k_is); (case z_int => k_is); (case z_isinstance => k_is); (case z_len => k_is); (case z_range => k_is); (case z_str => k_is)
    (case z_tuple => k_is)
