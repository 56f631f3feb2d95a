import PyProof.Rows.All
import Wide.All
import OpenK.AllK
import Wide.FinOn
import HandS.ForMost
import HandS.ForExc
import HandS.IsInst
import HandS.TupAny
import HandS.TupMul
import HandS.Zip
import HandS.Star
import HandS.Flt
import HandS.Defaults
import HandS.Gcd
import HandS.Wide
import KE.DataMinMax
import KE.SortData
import HandS.CallLocal
import HandS.More
import HandS.SortInts
import KE.GoesNew
import KE.GoesMore
import KE.KUnpackStar
import HandS.FStr
import HandS.Star
import HandS.Flow
import HandS.Conv
import HandS.Text
import HandS.ExcOwn
import HandS.Dict
import HandS.Small
import HandS.StrMore
import HandS.Codes
import PyProof.StrOps2
import HandS.Translate
import PySem.Challenge.RW_boundstead_k95_spaces_between_tokens
set_option Elab.async false
set_option linter.all false
set_option maxRecDepth 100000
namespace Bx
open PySem L2
section
variable {X : Cx}
/-! ### joined rules -/
def rAddX (K : PySem.W.Frag) : R2 := fun x y H Q => (∃ i j, x = .int i ∧ y = .int j ∧ Q (.int (i + j)) H) ∨ rCat x y H Q ∨ rCatA K x y H Q
theorem op_addX : OpR X (binaryOp .Add) (rAddX X.K) := op_add.or (op_cat.or op_catA)
def rMulX (K : PySem.W.Frag) : R2 := fun x y H Q => (∃ i j, x = .int i ∧ y = .int j ∧ IntMulOk i j ∧ Q (.int (i * j)) H) ∨ rRepT K x y H Q
theorem op_mulA : OpR X (binaryOp .Mult) (rI IntMulOk fun i j => .int (i * j)) := opI fun _ _ _ _ _ _ _ hc q => PyProof.Rows.mul_int q hc
theorem op_mulX : OpR X (binaryOp .Mult) (rMulX X.K) := op_mulA.or op_repT
def rEqX (K : PySem.W.Frag) : R2 := fun x y H Q => rEq x y H Q ∨ rEqD K x y H Q
theorem op_eqX (hu : X.A.units + 64 < cLine) : OpR X (compareOp .Eq) (rEqX X.K) := op_eq.or (op_eqD hu)
def rNeX (K : PySem.W.Frag) : R2 := fun x y H Q => rNe x y H Q ∨ rNeD K x y H Q
theorem op_neX (hu : X.A.units + 64 < cLine) : OpR X (compareOp .NotEq) (rNeX X.K) := op_ne.or (op_neD hu)
def rIxX (K : PySem.W.Frag) : R2 := fun x y H Q => rIxL K x y H Q ∨ rIxT K x y H Q
theorem ix_X : IxR X (rIxX X.K) := ix_list.or ix_tup
def rSlX (K : PySem.W.Frag) : V → Option Int → Option Int → Hp → VK → Prop := fun x lo hi H Q => rSlL K x lo hi H Q ∨ rSlA K x lo hi H Q
theorem sl_X : SlR X (rSlX X.K) := sl_list.or sl_tupA
def gX (K : PySem.W.Frag) (n : Nat) (t : TGs) : TG := fun v σ H Q => gTup K n t v σ H Q ∨ gLst K n t v σ H Q
theorem pg_X {es : List Expr} {k : Nat} {t : TGs} {n : Nat} {pos : Pos} (hc : X.calm = true) (h : PGs X es t)
    (hn : (assignEach es X.env).length = n := by rfl) (hst : (assignEach es X.env).findIdx? (·.1) = none := by rfl) : PG X (.Tuple es k pos) (gX X.K n t) :=
  ⟨fun pins s σ H v u Q I r q => q.elim (fun q => (pg_tup hc h hn hst).run pins s σ H v u Q I r q) fun q => (pg_lst hc h hn hst).run pins s σ H v u Q I r q⟩
/-- a list or a tuple walked -/
def iX (K : PySem.W.Frag) (tl : TE) : TI := fun σ H R => tl σ H fun x H1 => ∃ a, x = .ref a ∧ (((∃ xs, SqL K H1 a xs) ∧ R (Itl K a) H1) ∨ ((∃ xs, SqT K H1 a xs) ∧ R (Itt K a) H1))
theorem pi_X {tg l : Expr} {tl : TE} (hl : PE X l tl) : PI X tg l (iX X.K tl) := by
  refine ⟨fun pins s σ H R I h => ?_⟩
  refine thn (hl.run pins s σ H _ I h) fun v s1 ⟨x, H1, I1, r1, q1⟩ => ?_
  obtain ⟨a, e, q⟩ := q1
  subst e
  cases r1
  rcases q with ⟨⟨xs, hq⟩, q⟩ | ⟨⟨xs, hq⟩, q⟩
  · obtain ⟨its, rv, p, hz⟩ := I1.list hq
    refine wpAny_pyIter_list p.isList ?_
    refine ⟨s1.heap.objs.size, [s1.heap.objs.size], _, _, H1, rfl, I1.kept (t' := s1.toks) fun b o e => Heap.get?_push_of_some _ e, turn_list a _, ⟨_, Heap.get?_push_size _ rfl, rfl, rfl⟩, fun b hb => ?_, q⟩
    have e : b = s1.heap.objs.size := by simpa using hb
    subst e
    exact I1.fpOk (Nat.le_refl _) (I1.hok.fresh (Nat.le_refl _))
  · obtain ⟨its, rv, p, hz⟩ := I1.tuple hq
    refine wpAny_pyIter_tuple (show s1.heap.IsTuple a its.toArray from p) ?_
    refine ⟨s1.heap.objs.size, [s1.heap.objs.size], _, _, H1, rfl, I1.kept (t' := s1.toks) fun b o e => Heap.get?_push_of_some _ e, turn_tuple a _, ⟨_, Heap.get?_push_size _ rfl, rfl, rfl⟩, fun b hb => ?_, q⟩
    have e : b = s1.heap.objs.size := by simpa using hb
    subst e
    exact I1.fpOk (Nat.le_refl _) (I1.hok.fresh (Nat.le_refl _))
end
/-! ### named rules -/
section
variable {X : Cx}
def rSub : R2 := fun x y H Q => ∃ i j, x = .int i ∧ y = .int j ∧ Q (.int (i - j)) H
theorem o_sub : OpR X (binaryOp .Sub) rSub := op_sub
def CDivA (_ j : Int) : Prop := j ≠ 0 ∧ j.natAbs.log2 < 9000
def rFdv : R2 := fun x y H Q => ∃ i j, x = .int i ∧ y = .int j ∧ CDivA i j ∧ Q (.int (i.fdiv j)) H
theorem o_fdiv : OpR X (binaryOp .FloorDiv) rFdv := opI (C := CDivA) (g := fun i j => i.fdiv j) fun i j _ _ _ _ _ hc q => PyProof.Rows.floordiv_int hc.1 q (.inl (PyProof.noPylong_of_log2 hc.2))
def rModI : R2 := fun x y H Q => ∃ i j, x = .int i ∧ y = .int j ∧ 0 < j ∧ Q (.int (i % j)) H
theorem o_mod : OpR X (binaryOp .Mod) rModI := op_mod
def rPow : R2 := fun x y H Q => ∃ i j, x = .int i ∧ y = .int j ∧ CPow i j ∧ Q (.int (i ^ j.toNat)) H
theorem o_pow : OpR X (binaryOp .Pow) rPow := op_pow
def rLt : R2 := fun x y H Q => ∃ i j, x = .int i ∧ y = .int j ∧ Q (.bl (decide (i < j))) H
theorem o_lt : OpR X (compareOp .Lt) rLt := op_lt
def rLe : R2 := fun x y H Q => ∃ i j, x = .int i ∧ y = .int j ∧ Q (.bl (decide (i ≤ j))) H
theorem o_le : OpR X (compareOp .LtE) rLe := op_le
def rGt : R2 := fun x y H Q => ∃ i j, x = .int i ∧ y = .int j ∧ Q (.bl (decide (j < i))) H
theorem o_gt : OpR X (compareOp .Gt) rGt := op_gt
def rGe : R2 := fun x y H Q => ∃ i j, x = .int i ∧ y = .int j ∧ Q (.bl (decide (j ≤ i))) H
theorem o_ge : OpR X (compareOp .GtE) rGe := op_ge
def rNeg : V → Hp → VK → Prop := fun x H Q => ∃ i, x = .int i ∧ Q (.int (-i)) H
theorem u_neg : UnR X (unaryOp .USub) rNeg := un_neg
def rIsNon : R2 := fun x y H Q => y = .non ∧ Q (.bl (decide (x = .non))) H
theorem o_isN : OpR X (compareOp .Is) rIsNon := op_isN
def rNotNon : R2 := fun x y H Q => y = .non ∧ Q (.bl (!decide (x = .non))) H
theorem o_notN : OpR X (compareOp .IsNot) rNotNon := op_notN
def rLen (K : PySem.W.Frag) : List V → Hp → VK → Prop := fun xs H Q => ∃ p ys, xs = [.ref p] ∧ (SqL K H p ys ∨ SqT K H p ys) ∧ Q (.int ys.length) H
theorem c_len : CallR X (.builtin "len") (rLen X.K) := call_len_seq
def rAbs : List V → Hp → VK → Prop := fun xs H Q => ∃ i, xs = [.int i] ∧ Q (.int (if i < 0 then -i else i)) H
theorem c_abs : CallR X (.builtin "abs") rAbs := call_abs
def rIntO : List V → Hp → VK → Prop := fun xs H Q => (∃ i, xs = [.int i] ∧ Q (.int i) H) ∨ ∃ k, xs = [.bl k] ∧ Q (.int (if k then 1 else 0)) H
theorem c_int : CallR X (.type "int") rIntO := call_int1
def rTupOf (K : PySem.W.Frag) : List V → Hp → VK → Prop := fun xs H Q => ∃ p ys, xs = [.ref p] ∧ ((SqL K H p ys ∧ ∀ l, H l = none → Q (.ref l) (upd H l (.tup ys))) ∨ (SqT K H p ys ∧ Q (.ref p) H))
theorem c_tuple : CallR X (.type "tuple") (rTupOf X.K) := call_tuple_of
def rMx2 : List V → Hp → VK → Prop := fun xs H Q => ∃ i j, xs = [.int i, .int j] ∧ Q (.int (if j > i then j else i)) H
theorem c_max2 (hc : X.calm = true) : CallR X (.builtin "max") rMx2 := call_max2 hc
def rMn2 : List V → Hp → VK → Prop := fun xs H Q => ∃ i j, xs = [.int i, .int j] ∧ Q (.int (if j < i then j else i)) H
theorem c_min2 (hc : X.calm = true) : CallR X (.builtin "min") rMn2 := call_min2 hc
def rMx3 : List V → Hp → VK → Prop := rNuC3 nuMax3
theorem c_max3 (hc : X.calm = true) : CallR X (.builtin "max") rMx3 := call_max3Nu hc
end
/-- ways joined behind a statement -/
def tCut (t u : TS) : TS := fun D σ H => ∃ Mid : L2.St → Hp → Prop, t { D with nx := Mid } σ H ∧ ∀ σ' H', Mid σ' H' → u D σ' H'
theorem pss_cut {X : Cx} {st : Stmt} {rest : List Stmt} {t u : TS} (h1 : PS X st t) (h2 : PSs X rest u) : PSs X (st :: rest) (tCut t u) := by
  refine ⟨fun pins s σ H D I h => ?_⟩
  obtain ⟨Mid, hm, hu⟩ := h
  refine wpAny_execs_cons (thn (h1.run pins s σ H { D with nx := Mid } I hm) fun f s1 q => ?_)
  cases f with
  | next =>
    obtain ⟨σ', H', I', q⟩ := q
    exact h2.run pins s1 σ' H' D I' (hu σ' H' q)
  | ret v => exact q
  | brk => exact q
  | cont => exact q
/-! ### defs as a bundle, their calls -/
structure Ok (P : Program) (w : World) (K : PySem.W.Frag) (mg : Str → Option Value) (base : Heap) (k : Nat) (x : Str) (ps : List Str) (sp : Sp) : Prop where
  ex : ∃ f fd, FnOk P w K mg base CX0 k f fd ps sp ∧ mg x = some (.ref f) ∧ PySem.W.keepIn K (.ref f) = true ∧ Binds K fd ps []
theorem Ok.imp {P : Program} {w : World} {K : PySem.W.Frag} {mg : Str → Option Value} {base : Heap} {k : Nat} {x : Str} {ps : List Str} {sp sp' : Sp} (O : Ok P w K mg base k x ps sp) (h : ∀ vs H Q E, sp' vs H Q E → sp vs H Q E) : Ok P w K mg base k x ps sp' := by
  obtain ⟨f, fd, F, a, b, c⟩ := O.ex
  exact ⟨f, fd, F.imp h, a, b, c⟩
def tCallO (sp : Sp) (t : TA) : TE := fun σ H Q => t σ H fun vs H1 => sp vs H1 Q E0
theorem pe_cO {X : Cx} {k : Nat} {x : Str} {ps : List Str} {sp : Sp} {e : Expr} {es : List Expr} {t : TA} {p pos : Pos} (O : Ok X.prog X.w X.K X.mg X.base k x ps sp) (hr : Room k X.A) (hg : Gl X x) (ha : PA X (e :: es) t)
    (hdb : (x == ("__debug__" : Str)) = false := by decide) (he : starEach (e :: es) X.env = (false, eval e X.env) :: starEach es X.env := by rfl) (hpl : (backTo pos (starEach es X.env)).any (·.1) = false := by rfl) :
    PE X (.Call (.Name x p) (e :: es) [] pos) (tCallO sp t) := by
  obtain ⟨f, fd, F, hm, hk, hb⟩ := O.ex
  refine ⟨fun pins s σ H Q I h => (pe_call (E := E0) F hr hg hm hk hb .nil pass0 ha hdb he hpl).run pins s σ H Q I ?_⟩
  have e1 : (fun (vs : List V) H1 => sp (vs ++ []) H1 Q E0) = fun vs H1 => sp vs H1 Q E0 := by
    funext vs H1
    rw [List.append_nil]
  show t σ H fun vs H1 => sp (vs ++ []) H1 Q E0
  rw [e1]
  exact h
/-- with keywords: n places, then the names ks; idx says where each further parameter's value stands among them -/
structure OkK (P : Program) (w : World) (K : PySem.W.Frag) (mg : Str → Option Value) (base : Heap) (k : Nat) (x : Str) (ps : List Str) (sp : Sp) (n : Nat) (ks : List Str) (idx : List Nat) : Prop where
  ex : ∃ f fd, FnOk P w K mg base CX0 k f fd ps sp ∧ mg x = some (.ref f) ∧ PySem.W.keepIn K (.ref f) = true ∧
    ∀ us ws : List Value, us.length = n → ws.length = ks.length → bindArgs fd ⟨us, ks.zip ws⟩ = pure (ps.zip (us ++ idx.map fun i => ws.getD i .none))
theorem vals_getD : ∀ {zs : List V} {ws : List Value} (_ : Vals zs ws) (i : Nat), RelV (zs.getD i .non) (ws.getD i .none)
  | _, _, .nil, i => by
    show Value.none = Value.none
    rfl
  | _, _, .cons r rs, 0 => r
  | _, _, .cons r rs, i + 1 => vals_getD rs i
theorem vals_idx {zs : List V} {ws : List Value} (h : Vals zs ws) : ∀ idx : List Nat, Vals (idx.map fun i => zs.getD i .non) (idx.map fun i => ws.getD i .none)
  | [] => .nil
  | i :: l => .cons (vals_getD h i) (vals_idx h l)
theorem OkK.kbn {P : Program} {w : World} {K : PySem.W.Frag} {mg : Str → Option Value} {base : Heap} {k n : Nat} {x : Str} {ps ks : List Str} {sp : Sp} {idx : List Nat} (O : OkK P w K mg base k x ps sp n ks idx) :
    ∃ f fd, FnOk P w K mg base CX0 k f fd ps sp ∧ mg x = some (.ref f) ∧ PySem.W.keepIn K (.ref f) = true ∧ KBn K fd ps n ks (fun us ws => us ++ idx.map fun i => ws.getD i .none) (fun vs zs => vs ++ idx.map fun i => zs.getD i .non) := by
  obtain ⟨f, fd, F, a, b, c⟩ := O.ex
  exact ⟨f, fd, F, a, b, fun s us ws _ h1 h2 => .of_eq (c us ws h1 h2), fun r1 r2 => r1.append (vals_idx r2 idx)⟩
def tCallOK (n m : Nat) (sp : Sp) (idx : List Nat) (t tk : TA) : TE := fun σ H Q => t σ H fun vs H1 => tk σ H1 fun zs H2 => vs.length = n ∧ zs.length = m ∧ sp (vs ++ idx.map fun i => zs.getD i .non) H2 Q E0
section
variable {X : Cx} {k n : Nat} {x : Str} {ps ks : List Str} {sp : Sp} {idx : List Nat} {e : Expr} {es : List Expr} {kws : List Keyword} {t tk : TA} {p pos : Pos}
theorem pe_cK {m : Nat} (O : OkK X.prog X.w X.K X.mg X.base k x ps sp n ks idx) (hr : Room k X.A) (hg : Gl X x) (ha : PA X (e :: es) t) (hkw : PK X kws tk)
    (hall : (backToKw pos (keywordEach kws X.env)).all (·.1.isSome) = true := by rfl) (hks : (backToKw pos (keywordEach kws X.env)).filterMap (·.1) = ks := by rfl)
    (hdb : (x == ("__debug__" : Str)) = false := by decide) (hm : ks.length = m := by rfl) (he : starEach (e :: es) X.env = (false, eval e X.env) :: starEach es X.env := by rfl)
    (hpl : ((backTo pos (starEach (e :: es) X.env)).any (·.1) || (backToKw pos (keywordEach kws X.env)).any (·.1.isNone)) = false := by rfl) :
    PE X (.Call (.Name x p) (e :: es) kws pos) (tCallOK n m sp idx t tk) := by
  subst hm
  obtain ⟨f, fd, F, hmg, hk, hb⟩ := O.kbn
  exact pe_callN F hr hg hmg hk hb pass0 ha hkw hall hks hdb he hpl
theorem pe_cK0 {m : Nat} (O : OkK X.prog X.w X.K X.mg X.base k x ps sp 0 ks idx) (hr : Room k X.A) (hg : Gl X x) (hkw : PK X kws tk)
    (hall : (backToKw pos (keywordEach kws X.env)).all (·.1.isSome) = true := by rfl) (hks : (backToKw pos (keywordEach kws X.env)).filterMap (·.1) = ks := by rfl)
    (hdb : (x == ("__debug__" : Str)) = false := by decide) (hm : ks.length = m := by rfl) (hpl : ((backTo pos (starEach [] X.env)).any (·.1) || (backToKw pos (keywordEach kws X.env)).any (·.1.isNone)) = false := by rfl) :
    PE X (.Call (.Name x p) [] kws pos) (tCallOK 0 m sp idx tNil tk) := by
  subst hm
  obtain ⟨f, fd, F, hmg, hk, hb⟩ := O.kbn
  refine ⟨fun pins s σ H Q I h => ?_⟩
  refine wpAny_Call_Name_kw (ld_glob I hg hmg ?_ hdb)
  refine PySem.W.callWith_KW0 (h₀ := X.base) I.ok.mod.kin hk hall ?_ hpl
  refine thn (hkw.run pos pins s σ H _ I h) fun ws s2 ⟨zs, H2, I2, rz, l1, l2, q2⟩ => ⟨I2.kIn, ?_⟩
  rw [hks]
  exact run_fnN (us := []) F hr hb pass0 I2 .nil rz l1 l2 q2
end
/-! ### defs that may raise -/
structure OkX (P : Program) (w : World) (K : PySem.W.Frag) (mg : Str → Option Value) (base : Heap) (k : Nat) (x : Str) (ps : List Str) (sp : Sp) : Prop where
  ex : ∃ f fd, FnOk P w K mg base (L2.CX P w) k f fd ps sp ∧ mg x = some (.ref f) ∧ PySem.W.keepIn K (.ref f) = true ∧ Binds K fd ps []
structure OkXK (P : Program) (w : World) (K : PySem.W.Frag) (mg : Str → Option Value) (base : Heap) (k : Nat) (x : Str) (ps : List Str) (sp : Sp) (n : Nat) (ks : List Str) (idx : List Nat) : Prop where
  ex : ∃ f fd, FnOk P w K mg base (L2.CX P w) k f fd ps sp ∧ mg x = some (.ref f) ∧ PySem.W.keepIn K (.ref f) = true ∧
    ∀ us ws : List Value, us.length = n → ws.length = ks.length → bindArgs fd ⟨us, ks.zip ws⟩ = pure (ps.zip (us ++ idx.map fun i => ws.getD i .none))
theorem OkXK.kbn {P : Program} {w : World} {K : PySem.W.Frag} {mg : Str → Option Value} {base : Heap} {k n : Nat} {x : Str} {ps ks : List Str} {sp : Sp} {idx : List Nat} (O : OkXK P w K mg base k x ps sp n ks idx) :
    ∃ f fd, FnOk P w K mg base (L2.CX P w) k f fd ps sp ∧ mg x = some (.ref f) ∧ PySem.W.keepIn K (.ref f) = true ∧ KBn K fd ps n ks (fun us ws => us ++ idx.map fun i => ws.getD i .none) (fun vs zs => vs ++ idx.map fun i => zs.getD i .non) := by
  obtain ⟨f, fd, F, a, b, c⟩ := O.ex
  exact ⟨f, fd, F, a, b, fun s us ws _ h1 h2 => .of_eq (c us ws h1 h2), fun r1 r2 => r1.append (vals_idx r2 idx)⟩
section
variable {X : Cx} {k n : Nat} {x : Str} {ps ks : List Str} {sp : Sp} {idx : List Nat} {e : Expr} {es : List Expr} {kws : List Keyword} {t tk : TA} {p pos : Pos} {W : WX}
/-- called where nothing is raised -/
theorem pe_cX (O : OkX X.prog X.w X.K X.mg X.base k x ps sp) (hr : Room k X.A) (hg : Gl X x) (ha : PA X (e :: es) t)
    (hdb : (x == ("__debug__" : Str)) = false := by decide) (he : starEach (e :: es) X.env = (false, eval e X.env) :: starEach es X.env := by rfl) (hpl : (backTo pos (starEach es X.env)).any (·.1) = false := by rfl) :
    PE X (.Call (.Name x p) (e :: es) [] pos) (tCallO sp t) := by
  obtain ⟨f, fd, F, hm, hk, hb⟩ := O.ex
  refine ⟨fun pins s σ H Q I h => (pe_call (E := E0) F hr hg hm hk hb .nil passL ha hdb he hpl).run pins s σ H Q I ?_⟩
  have e1 : (fun (vs : List V) H1 => sp (vs ++ []) H1 Q E0) = fun vs H1 => sp vs H1 Q E0 := by
    funext vs H1
    rw [List.append_nil]
  show t σ H fun vs H1 => sp (vs ++ []) H1 Q E0
  rw [e1]
  exact h
/-- called in a try's body (or where what is raised goes on): W, the wish -/
theorem pe_cXS (O : OkX X.prog X.w X.K X.mg X.base k x ps sp) (hr : Room k X.A) (hg : Gl X x) (tkk : Takes X W) (ha : PA X (e :: es) t)
    (hdb : (x == ("__debug__" : Str)) = false := by decide) (he : starEach (e :: es) X.env = (false, eval e X.env) :: starEach es X.env := by rfl) (hpl : (backTo pos (starEach es X.env)).any (·.1) = false := by rfl) :
    PE X (.Call (.Name x p) (e :: es) [] pos) (tCallS sp (WE W) t) := by
  obtain ⟨f, fd, F, hm, hk, hb⟩ := O.ex
  exact pe_callS F hr hg hm hk hb (fun σ => passAt tkk σ) ha hdb he hpl
def tCallSK (n m : Nat) (sp : Sp) (idx : List Nat) (E : L2.St → XK) (t tk : TA) : TE := fun σ H Q => t σ H fun vs H1 => tk σ H1 fun zs H2 => vs.length = n ∧ zs.length = m ∧ sp (vs ++ idx.map fun i => zs.getD i .non) H2 Q (E σ)
theorem run_fnSK {pins : List (Addr × Obj)} {σ : L2.St} {H : Hp} {s : Shared} {Q : VK} {us ws : List Value} {vs zs : List V} {f : Addr} {fd : FuncData} {g : List Value → List Value → List Value} {gV : List V → List V → List V} (F : FnOk X.prog X.w X.K X.mg X.base (L2.CX X.prog X.w) k f fd ps sp) (hr : Room k X.A) (hb : KBn X.K fd ps n ks g gV) (tkk : Takes X W)
    (I : Inv X pins σ H s) (r : Vals vs us) (rz : Vals zs ws) (l1 : vs.length = n) (l2 : zs.length = ks.length) (h : sp (gV vs zs) H Q (WE W σ)) : wpAny (model X.prog X.w) X.A (call (.ref f) us (ks.zip ws)) (EP X pins σ Q) X.xe s := by
  have r2 := hb.rel r rz
  refine wpAny_call (codeAny_mono (F.run X.A X.stack s H ⟨us, ks.zip ws⟩ (g us ws) (gV vs zs) Q (WE W σ) hr I.env0 (hb.to s us ws I.kIn (r.length.symm.trans l1) (rz.length.symm.trans l2)) r2 h) fun r s' hq => ?_)
  cases r with
  | error e => exact passAt tkk σ pins H s e s' I hq
  | ok fl =>
    cases fl with
    | ret u => exact I.after hq
    | next => exact False.elim hq
    | brk => exact False.elim hq
    | cont => exact False.elim hq
theorem pe_cXSK0 {m : Nat} (O : OkXK X.prog X.w X.K X.mg X.base k x ps sp 0 ks idx) (hr : Room k X.A) (hg : Gl X x) (tkk : Takes X W) (hkw : PK X kws tk)
    (hall : (backToKw pos (keywordEach kws X.env)).all (·.1.isSome) = true := by rfl) (hks : (backToKw pos (keywordEach kws X.env)).filterMap (·.1) = ks := by rfl)
    (hdb : (x == ("__debug__" : Str)) = false := by decide) (hm : ks.length = m := by rfl) (hpl : ((backTo pos (starEach [] X.env)).any (·.1) || (backToKw pos (keywordEach kws X.env)).any (·.1.isNone)) = false := by rfl) :
    PE X (.Call (.Name x p) [] kws pos) (tCallSK 0 m sp idx (WE W) tNil tk) := by
  subst hm
  obtain ⟨f, fd, F, hmg, hk, hb⟩ := O.kbn
  refine ⟨fun pins s σ H Q I h => ?_⟩
  refine wpAny_Call_Name_kw (ld_glob I hg hmg ?_ hdb)
  refine PySem.W.callWith_KW0 (h₀ := X.base) I.ok.mod.kin hk hall ?_ hpl
  refine thn (hkw.run pos pins s σ H _ I h) fun ws s2 ⟨zs, H2, I2, rz, l1, l2, q2⟩ => ⟨I2.kIn, ?_⟩
  rw [hks]
  exact run_fnSK (us := []) F hr hb tkk I2 .nil rz l1 l2 q2
/-- try: body / except C as n: suite -/
def tTry (K : PySem.W.Frag) (C : Addr) (i : Nat) (tb : WX → TS) (ts : Addr → Value → Option Addr → TS) (Wo : WX) : TS := fun D σ H => tb (wAs K (.ref C) i ts Wo D) D σ H
end
end Bx
namespace Bx
open PySem L2
def isB (x : V) (H : Hp) (Q : Bool → Hp → Prop) : Prop := ∃ k, x = .bl k ∧ Q k H
section
variable {σ σ' : L2.St} {H : Hp} {Q : VK} {QB : Bool → Hp → Prop} {QA : List V → Hp → Prop} {QO : Option Int → Hp → Prop} {v w : V} {ta tb tc te : TE} {t u : TT} {tr : TA} {tl th : TO} {K : PySem.W.Frag} {n b c : L2.St → Hp → Prop} {r : VK} {k : Bool} {i j : Int} {A B : Prop} {p a : Addr} {xs ys : List V} {ts tu : TS}
theorem x_var {i : Nat} (h : σ[i]? = some (some v)) (q : Q v H) : tVar i σ H Q := ⟨v, h, q⟩
theorem x_c (q : Q v H) : tC v σ H Q := q
theorem x_op {f : R2} (q : ta σ H fun x H1 => tb σ H1 fun y H2 => f x y H2 Q) : tOp f ta tb σ H Q := q
theorem x_un {f : V → Hp → VK → Prop} (q : ta σ H fun x H1 => f x H1 Q) : tUn f ta σ H Q := q
theorem x_sub (q : Q (.int (i - j)) H) : rSub (.int i) (.int j) H Q := ⟨i, j, rfl, rfl, q⟩
theorem x_fdvA (h0 : j ≠ 0) {m : Nat} (hb : j.natAbs < 2 ^ m) (hm : m ≤ 9000) (q : Q (.int (i.fdiv j)) H) : rFdv (.int i) (.int j) H Q := ⟨i, j, rfl, rfl, ⟨h0, by
  have z := (Nat.log2_lt (n := j.natAbs) (k := m) (by omega)).mpr hb
  omega⟩, q⟩
theorem x_fdv (h : 0 < j ∧ j < 1073741824) (q : Q (.int (i / j)) H) : rFdv (.int i) (.int j) H Q := x_fdvA (m := 30) (by omega) (by show j.natAbs < 1073741824; omega) (by decide) (by rw [Int.fdiv_eq_ediv_of_nonneg i (by omega)]; exact q)
theorem x_mod (h : 0 < j) (q : Q (.int (i % j)) H) : rModI (.int i) (.int j) H Q := ⟨i, j, rfl, rfl, h, q⟩
theorem x_pow (h : 0 ≤ j ∧ j ≤ 1000000 ∧ i.natAbs < 2 ^ 64) (q : Q (.int (i ^ j.toNat)) H) : rPow (.int i) (.int j) H Q := ⟨i, j, rfl, rfl, h, q⟩
theorem x_lt (q : Q (.bl (decide (i < j))) H) : rLt (.int i) (.int j) H Q := ⟨i, j, rfl, rfl, q⟩
theorem x_le (q : Q (.bl (decide (i ≤ j))) H) : rLe (.int i) (.int j) H Q := ⟨i, j, rfl, rfl, q⟩
theorem x_gt (q : Q (.bl (decide (j < i))) H) : rGt (.int i) (.int j) H Q := ⟨i, j, rfl, rfl, q⟩
theorem x_ge (q : Q (.bl (decide (j ≤ i))) H) : rGe (.int i) (.int j) H Q := ⟨i, j, rfl, rfl, q⟩
theorem x_neg (q : Q (.int (-i)) H) : rNeg (.int i) H Q := ⟨i, rfl, q⟩
theorem x_isN (q : Q (.bl (decide (v = .non))) H) : rIsNon v .non H Q := ⟨rfl, q⟩
theorem x_notN (q : Q (.bl (!decide (v = .non))) H) : rNotNon v .non H Q := ⟨rfl, q⟩
theorem x_abs (q : Q (.int (if i < 0 then -i else i)) H) : rAbs [.int i] H Q := ⟨i, rfl, q⟩
theorem x_int1 (q : Q (.int i) H) : rIntO [.int i] H Q := .inl ⟨i, rfl, q⟩
theorem x_max2 (q : Q (.int (if j > i then j else i)) H) : rMx2 [.int i, .int j] H Q := ⟨i, j, rfl, q⟩
theorem x_min2 (q : Q (.int (if j < i then j else i)) H) : rMn2 [.int i, .int j] H Q := ⟨i, j, rfl, q⟩
theorem x_tupL (h : SqL K H p xs) (q : ∀ l, H l = none → Q (.ref l) (upd H l (.tup xs))) : rTupOf K [.ref p] H Q := ⟨p, xs, rfl, .inl ⟨h, q⟩⟩
theorem x_tupT (h : SqT K H p xs) (q : Q (.ref p) H) : rTupOf K [.ref p] H Q := ⟨p, xs, rfl, .inr ⟨h, q⟩⟩
theorem x_addI (q : Q (.int (i + j)) H) : rAddX K (.int i) (.int j) H Q := .inl ⟨i, j, rfl, rfl, q⟩
theorem x_mulI (h : CMul i j) (q : Q (.int (i * j)) H) : rMulX K (.int i) (.int j) H Q := .inl ⟨i, j, rfl, rfl, h.ok, q⟩
theorem x_addL {b : Addr} (h1 : H p = some (.lst xs)) (h2 : H b = some (.lst ys)) (h : xs.length + ys.length ≤ sizeLine) (q : ∀ a, H a = none → Q (.ref a) (upd H a (.lst (xs ++ ys)))) : rAddX K (.ref p) (.ref b) H Q := .inr (.inl ⟨p, b, xs, ys, rfl, rfl, h1, h2, h, q⟩)
theorem x_addT {b : Addr} (h1 : H p = some (.tup xs)) (h2 : H b = some (.tup ys)) (h : xs.length + ys.length ≤ sizeLine) (q0 : xs = [] → Q (.ref b) H) (q1 : xs ≠ [] → ys = [] → Q (.ref p) H) (q : ∀ a, H a = none → Q (.ref a) (upd H a (.tup (xs ++ ys)))) : rAddX K (.ref p) (.ref b) H Q :=
  .inr (.inr ⟨p, b, xs, ys, rfl, rfl, SqT.of h1, SqT.of h2, h, q0, q1, fun _ _ => q⟩)
theorem x_repT (h1 : H p = some (.tup xs)) (h0 : xs ≠ []) (h2 : 2 ≤ j) (h3 : j ≤ 1000) (h4 : xs.length ≤ 1000) (q : ∀ a, H a = none → Q (.ref a) (upd H a (.tup (List.replicate j.toNat xs).flatten))) : rMulX K (.ref p) (.int j) H Q :=
  .inr ⟨p, j, xs, rfl, rfl, SqT.of h1, h0, h2, h3, h4, q⟩
theorem x_eqI (q : Q (.bl (decide (i = j))) H) : rEqX K (.int i) (.int j) H Q := .inl ⟨rfl, by
  have e : decide (V.int i = V.int j) = decide (i = j) := by by_cases z : i = j <;> simp [z]
  rw [e]; exact q⟩
theorem x_neI (q : Q (.bl (!decide (i = j))) H) : rNeX K (.int i) (.int j) H Q := .inl ⟨rfl, by
  have e : decide (V.int i = V.int j) = decide (i = j) := by by_cases z : i = j <;> simp [z]
  rw [e]; exact q⟩
theorem x_eqV (h : scal v w = true) (q : Q (.bl (decide (v = w))) H) : rEqX K v w H Q := .inl ⟨h, q⟩
theorem x_ixL (h : H p = some (.lst xs)) (e : atI xs i = some v) (q : Q v H) : rIxX K (.ref p) (.int i) H Q := .inl ⟨p, xs, i, v, rfl, rfl, SqL.of h, e, q⟩
theorem x_ixT (h : H p = some (.tup xs)) (e : atI xs i = some v) (q : Q v H) : rIxX K (.ref p) (.int i) H Q := .inr ⟨p, xs, i, v, rfl, rfl, SqT.of h, e, q⟩
theorem x_sl {f : V → Option Int → Option Int → Hp → VK → Prop} (q : te σ H fun x H1 => tl σ H1 fun l H2 => th σ H2 fun u H3 => f x l u H3 Q) : tSl f te tl th σ H Q := q
theorem x_no (q : QO none H) : tNoPart σ H QO := q
theorem x_part (q : te σ H fun x H1 => ∃ i, x = .int i ∧ QO (some i) H1) : tPart te σ H QO := q
theorem x_slL {lo hi : Option Int} (h : SqL K H p xs) (q : ∀ a, H a = none → Q (.ref a) (upd H a (.lst (cutV xs lo hi)))) : rSlX K (.ref p) lo hi H Q := .inl ⟨p, xs, rfl, h, q⟩
theorem x_slT {lo hi : Option Int} (h : H p = some (.tup xs)) (q1 : HT.sIx xs.length 0 lo = 0 ∧ HT.sIx xs.length xs.length hi = xs.length → Q (.ref p) H) (q : ¬ (HT.sIx xs.length 0 lo = 0 ∧ HT.sIx xs.length xs.length hi = xs.length) → ∀ a, H a = none → Q (.ref a) (upd H a (.tup (cutV xs lo hi)))) : rSlX K (.ref p) lo hi H Q := .inr ⟨p, xs, rfl, SqT.of h, q1, q⟩
theorem x_test (q : te σ H fun x H1 => isB x H1 QB) : tTest te σ H QB := q
theorem x_tB (q : te σ H fun x H1 => isB x H1 QB) : tB te σ H QB := q
theorem x_isB (q : QB k H) : isB (.bl k) H QB := ⟨k, rfl, q⟩
theorem x_and (q : t σ H fun c H1 => if c = true then u σ H1 QB else QB false H1) : tAnd t u σ H QB := q
theorem x_or (q : t σ H fun c H1 => if c = true then QB true H1 else u σ H1 QB) : tOr t u σ H QB := q
theorem x_not (q : t σ H fun c H1 => QB (!c) H1) : tNot t σ H QB := q
theorem x_andV (q : ta σ H fun x H1 => isB x H1 fun c H2 => if c = true then tb σ H2 Q else Q (.bl false) H2) : tAndV ta tb σ H Q := q
theorem x_orV (q : ta σ H fun x H1 => isB x H1 fun c H2 => if c = true then Q (.bl true) H2 else tb σ H2 Q) : tOrV ta tb σ H Q := q
theorem x_notV (q : ta σ H fun x H1 => isB x H1 fun c H2 => Q (.bl (!c)) H2) : tNotV ta σ H Q := q
theorem x_chain {f g : R2} (q : ta σ H fun x H1 => tb σ H1 fun y H2 => f x y H2 fun z H3 => isB z H3 fun k H4 => if k = true then tc σ H4 fun w H5 => g y w H5 Q else Q (.bl false) H4) : tChain f g ta tb tc σ H Q := q
theorem x_ifE (q : t σ H fun c H1 => if c = true then ta σ H1 Q else tb σ H1 Q) : tIf t ta tb σ H Q := q
theorem x_iteT (h : A) : if true = true then A else B := by rw [if_pos rfl]; exact h
theorem x_iteF (h : B) : if false = true then A else B := by rw [if_neg Bool.false_ne_true]; exact h
theorem x_iteNT (h : B) : if (!true) = true then A else B := x_iteF h
theorem x_iteNF (h : A) : if (!false) = true then A else B := x_iteT h
theorem x_ite (h1 : k = true → A) (h2 : k = false → B) : if k = true then A else B := by
  cases k with
  | true => exact x_iteT (h1 rfl)
  | false => exact x_iteF (h2 rfl)
theorem x_dec {C : Prop} [Decidable C] (h1 : C → A) (h2 : ¬ C → B) : if decide C = true then A else B :=
  x_ite (fun e => h1 (of_decide_eq_true e)) (fun e => h2 (of_decide_eq_false e))
theorem x_ndec {C : Prop} [Decidable C] (h1 : ¬ C → A) (h2 : C → B) : if (!decide C) = true then A else B := by
  by_cases e : C
  · rw [decide_eq_true e]; exact x_iteNT (h2 e)
  · rw [decide_eq_false e]; exact x_iteNF (h1 e)
theorem x_nil (q : QA [] H) : tNil σ H QA := q
theorem x_cons (q : te σ H fun x H1 => tr σ H1 fun xs H2 => QA (x :: xs) H2) : tCons te tr σ H QA := q
def mkT (xs : List V) (H : Hp) (Q : VK) : Prop := xs.length ≤ sizeLine ∧ ∀ p, H p = none → Q (.ref p) (upd H p (.tup xs))
def mkL (xs : List V) (H : Hp) (Q : VK) : Prop := xs.length ≤ sizeLine ∧ ∀ p, H p = none → Q (.ref p) (upd H p (.lst xs))
theorem x_tup (q : tr σ H fun xs H1 => mkT xs H1 Q) : tTup tr σ H Q := q
theorem x_lst (q : tr σ H fun xs H1 => mkL xs H1 Q) : tLst tr σ H Q := q
theorem x_cb {f : List V → Hp → VK → Prop} (q : tr σ H fun vs H1 => f vs H1 Q) : tCB f tr σ H Q := q
theorem x_call {sp : Sp} (q : tr σ H fun vs H1 => sp vs H1 Q E0) : tCallO sp tr σ H Q := q
theorem x_callK {sp : Sp} {m n : Nat} {idx : List Nat} {tk : TA} (q : tr σ H fun vs H1 => tk σ H1 fun zs H2 => vs.length = n ∧ zs.length = m ∧ sp (vs ++ idx.map fun i => zs.getD i .non) H2 Q E0) : tCallOK n m sp idx tr tk σ H Q := q
theorem x_callS {sp : Sp} {E : L2.St → XK} (q : tr σ H fun vs H1 => sp vs H1 Q (E σ)) : tCallS sp E tr σ H Q := q
theorem x_callSK {sp : Sp} {m n : Nat} {idx : List Nat} {tk : TA} {E : L2.St → XK} (q : tr σ H fun vs H1 => tk σ H1 fun zs H2 => vs.length = n ∧ zs.length = m ∧ sp (vs ++ idx.map fun i => zs.getD i .non) H2 Q (E σ)) : tCallSK n m sp idx E tr tk σ H Q := q
theorem x_bm {T : String} {f : V → List V → Hp → VK → Prop} (q : te σ H fun x H1 => tyV K T x H1 ∧ tr σ H1 fun xs H2 => f x xs H2 Q) : tBM K T f te tr σ H Q := q
/-! statements -/
theorem x_seq (q : ts ⟨tu ⟨n, r, b, c⟩, r, b, c⟩ σ H) : tSeq ts tu ⟨n, r, b, c⟩ σ H := q
theorem x_cut (Mid : L2.St → Hp → Prop) (h : ts ⟨Mid, r, b, c⟩ σ H) (k : ∀ σ' H', Mid σ' H' → tu ⟨n, r, b, c⟩ σ' H') : tCut ts tu ⟨n, r, b, c⟩ σ H := ⟨Mid, h, k⟩
theorem x_next (q : n σ H) : tNext ⟨n, r, b, c⟩ σ H := q
theorem x_brk (q : b σ H) : tBreak ⟨n, r, b, c⟩ σ H := q
theorem x_cont (q : c σ H) : tCont ⟨n, r, b, c⟩ σ H := q
theorem x_drop (q : te σ H fun _ H1 => n σ H1) : tDrop te ⟨n, r, b, c⟩ σ H := q
theorem x_ret (q : te σ H r) : tRet te ⟨n, r, b, c⟩ σ H := q
theorem x_ifS (q : t σ H fun k H1 => if k = true then ts ⟨n, r, b, c⟩ σ H1 else tu ⟨n, r, b, c⟩ σ H1) : tIfS t ts tu ⟨n, r, b, c⟩ σ H := q
theorem x_asg {g : TG} (q : te σ H fun x H1 => g x σ H1 n) : tAsg te g ⟨n, r, b, c⟩ σ H := q
theorem x_gName {i : Nat} (q : n (σ.set i (some v)) H) : gName i v σ H n := q
theorem x_gSub {s : TSet} (q : ta σ H fun o H1 => tb σ H1 fun i H2 => s o i v H2 fun H3 => n σ H3) : gSub ta tb s v σ H n := q
theorem x_setL {m : Nat} {Qh : Hp → Prop} (h : H p = some (.lst xs)) (e : ixN xs.length i = some m) (q : Qh (upd H p (.lst (xs.set m v)))) : rSetL (.ref p) (.int i) v H Qh := ⟨p, xs, i, m, rfl, rfl, h, e, q⟩
theorem x_app (h : H p = some (.lst xs)) (hl : xs.length < sizeLine) (q : Q .non (upd H p (.lst (xs ++ [v])))) : rAppend (.ref p) [v] H Q := ⟨p, xs, v, rfl, rfl, h, hl, q⟩
theorem x_len {f : V → Hp → VK → Prop} : True := trivial
theorem x_gX {m : Nat} {g : TGs} (h : H p = some (.tup xs) ∨ H p = some (.lst xs)) (e : xs.length = m) (q : g xs σ H n) : gX K m g (.ref p) σ H n := h.elim (fun h => .inl ⟨p, xs, rfl, SqT.of h, e, q⟩) fun h => .inr ⟨p, xs, rfl, SqL.of h, e, q⟩
theorem x_gCons {g : TG} {gs : TGs} (q : g v σ H fun σ' H' => gs xs σ' H' n) : gCons g gs (v :: xs) σ H n := ⟨v, xs, rfl, q⟩
theorem x_gNil (q : n σ H) : gNil [] σ H n := ⟨rfl, q⟩
/-! loops -/
def rawR (m : Nat) (g : TG) (ts : TS) (D : Ends) (σ : L2.St) (H : Hp) : Prop := ∃ W : Nat → Nat → L2.St → Hp → Prop, (∃ m, W 0 m σ H) ∧ ∀ i k σ H, W i k σ H →
  ((Itr 0 m).stop i H ∧ D.nx σ H) ∨ ((Itr 0 m).go i H ∧ ∃ N : L2.St → Hp → Prop, (∀ σ' H', N σ' H' → ∃ m', m' < k ∧ W (i + 1) m' σ' H') ∧ ∀ x H', (Itr 0 m).yld i H x H' → g x σ H' fun σ2 H2 => ts { D with nx := N, ct := N, bk := D.nx } σ2 H2)
def rngK (vs : List V) (P : Nat → Prop) : Prop := ∃ j : Int, vs = [.int j] ∧ -(2 ^ 62) ≤ j ∧ j < 2 ^ 62 ∧ P j.toNat
theorem x_rng {z : Int} {P : Nat → Prop} (m : Nat) (hm : m ≤ 1000000000) (hz : z = (m : Int)) (q : P m) : rngK [.int z] P := by
  subst hz
  exact ⟨(m : Int), rfl, by omega, by omega, by rw [Int.toNat_natCast]; exact q⟩
theorem x_forR {g : TG} (q : tr σ H fun vs H1 => rngK vs fun m => rawR m g ts ⟨n, r, b, c⟩ σ H1) : tFor (iRng1 tr) g ts ⟨n, r, b, c⟩ σ H := q
theorem x_loopR {g : TG} {m : Nat} (Pv : Nat → L2.St → Hp → Prop) (h0 : Pv 0 σ H) (hs : ∀ i σ H, i < m → Pv i σ H → g (.int (i : Int)) σ H fun σ2 H2 => ts ⟨Pv (i + 1), r, n, Pv (i + 1)⟩ σ2 H2) (hd : ∀ σ H, Pv m σ H → n σ H) : rawR m g ts ⟨n, r, b, c⟩ σ H := by
  refine for_range (lo := 0) (n := m) (D := ⟨n, r, b, c⟩) Pv h0 (fun i σ H hi hp => ?_) hd
  rw [Int.zero_add]
  exact hs i σ H hi hp
def rawJ (J : It) (g : TG) (ts : TS) (D : Ends) (σ : L2.St) (H : Hp) : Prop := ∃ W : Nat → Nat → L2.St → Hp → Prop, (∃ m, W 0 m σ H) ∧ ∀ i k σ H, W i k σ H →
  (J.stop i H ∧ D.nx σ H) ∨ (J.go i H ∧ ∃ N : L2.St → Hp → Prop, (∀ σ' H', N σ' H' → ∃ m', m' < k ∧ W (i + 1) m' σ' H') ∧ ∀ x H', J.yld i H x H' → g x σ H' fun σ2 H2 => ts { D with nx := N, ct := N, bk := D.nx } σ2 H2)
theorem x_forX {g : TG} (q : te σ H fun x H1 => ∃ a, x = .ref a ∧ (((∃ xs, SqL K H1 a xs) ∧ rawJ (Itl K a) g ts ⟨n, r, b, c⟩ σ H1) ∨ ((∃ xs, SqT K H1 a xs) ∧ rawJ (Itt K a) g ts ⟨n, r, b, c⟩ σ H1))) : tFor (iX K te) g ts ⟨n, r, b, c⟩ σ H := q
theorem x_loopL {g : TG} (h : SqL K H a xs) (Pv : Nat → L2.St → Hp → Prop) (h0 : Pv 0 σ H) (hl : ∀ i σ H, i ≤ xs.length → Pv i σ H → SqL K H a xs) (hs : ∀ i x σ H, xs[i]? = some x → Pv i σ H → g x σ H fun σ2 H2 => ts ⟨Pv (i + 1), r, n, Pv (i + 1)⟩ σ2 H2) (hd : ∀ σ H, Pv xs.length σ H → n σ H) :
    ∃ a', V.ref a = .ref a' ∧ (((∃ xs, SqL K H a' xs) ∧ rawJ (Itl K a') g ts ⟨n, r, b, c⟩ σ H) ∨ ((∃ xs, SqT K H a' xs) ∧ rawJ (Itt K a') g ts ⟨n, r, b, c⟩ σ H)) :=
  ⟨a, rfl, .inl ⟨⟨xs, h⟩, for_list (D := ⟨n, r, b, c⟩) Pv h0 hl hs hd⟩⟩
theorem x_loopT {g : TG} (h : SqT K H a xs) (Pv : Nat → L2.St → Hp → Prop) (h0 : Pv 0 σ H) (hl : ∀ i σ H, i ≤ xs.length → Pv i σ H → SqT K H a xs) (hs : ∀ i x σ H, xs[i]? = some x → Pv i σ H → g x σ H fun σ2 H2 => ts ⟨Pv (i + 1), r, n, Pv (i + 1)⟩ σ2 H2) (hd : ∀ σ H, Pv xs.length σ H → n σ H) :
    ∃ a', V.ref a = .ref a' ∧ (((∃ xs, SqL K H a' xs) ∧ rawJ (Itl K a') g ts ⟨n, r, b, c⟩ σ H) ∨ ((∃ xs, SqT K H a' xs) ∧ rawJ (Itt K a') g ts ⟨n, r, b, c⟩ σ H)) :=
  ⟨a, rfl, .inr ⟨⟨xs, h⟩, for_tup (D := ⟨n, r, b, c⟩) Pv h0 hl hs hd⟩⟩
/-! comprehensions -/
def rawC (J : It) (g : TG) (tt : TT) (te : TE) (vs : List Nat) (σ : L2.St) (H1 : Hp) (Q : VK) : Prop := ∀ D, H1 D = none → ∃ W : Nat → Nat → Hp → Prop, (∃ m, W 0 m (upd H1 D (.lst []))) ∧ ∀ i m H, W i m H →
  (J.stop i H ∧ Q (.ref D) H) ∨ (J.go i H ∧ ∃ Nx : Hp → Prop, (∀ H', Nx H' → ∃ m', m' < m ∧ W (i + 1) m' H') ∧ ∀ x H', J.yld i H x H' → g x (wipe σ vs) H' fun σ2 H2 => wipe σ2 vs = wipe σ vs ∧ tt σ2 H2 fun b H3 =>
    if b = true then te σ2 H3 fun y H4 => ∃ acc, H4 D = some (.lst acc) ∧ acc.length < sizeLine ∧ Nx (upd H4 D (.lst (acc ++ [y]))) else Nx H3)
theorem x_lcX {g : TG} {tt : TT} {tx : TE} {vs : List Nat} (q : te σ H fun x H1 => ∃ a, x = .ref a ∧ (((∃ xs, SqL K H1 a xs) ∧ rawC (Itl K a) g tt tx vs σ H1 Q) ∨ ((∃ xs, SqT K H1 a xs) ∧ rawC (Itt K a) g tt tx vs σ H1 Q))) : tLc (iX K te) g tt tx vs σ H Q := q
theorem x_lcR {g : TG} {tt : TT} {tx : TE} {vs : List Nat} (q : tr σ H fun us H1 => rngK us fun m => rawC (Itr 0 m) g tt tx vs σ H1 Q) : tLc (iRng1 tr) g tt tx vs σ H Q := q
theorem x_lcL {g : TG} {tt : TT} {tx : TE} {vs : List Nat} (h : SqL K H a xs) (Pv : Addr → Nat → Hp → Prop) (h0 : ∀ D, H D = none → Pv D 0 (upd H D (.lst []))) (hl : ∀ D i H, i ≤ xs.length → Pv D i H → SqL K H a xs)
    (hs : ∀ D i x H, xs[i]? = some x → Pv D i H → g x (wipe σ vs) H fun σ2 H2 => wipe σ2 vs = wipe σ vs ∧ tt σ2 H2 fun b H3 =>
      if b = true then tx σ2 H3 fun y H4 => ∃ acc, H4 D = some (.lst acc) ∧ acc.length < sizeLine ∧ Pv D (i + 1) (upd H4 D (.lst (acc ++ [y]))) else Pv D (i + 1) H3) (hd : ∀ D H, Pv D xs.length H → Q (.ref D) H) :
    ∃ a', V.ref a = .ref a' ∧ (((∃ xs, SqL K H a' xs) ∧ rawC (Itl K a') g tt tx vs σ H Q) ∨ ((∃ xs, SqT K H a' xs) ∧ rawC (Itt K a') g tt tx vs σ H Q)) :=
  ⟨a, rfl, .inl ⟨⟨xs, h⟩, fun D hD => lc_list (Pv D) (h0 D hD) (hl D) (hs D) (hd D)⟩⟩
theorem x_lcT {g : TG} {tt : TT} {tx : TE} {vs : List Nat} (h : SqT K H a xs) (Pv : Addr → Nat → Hp → Prop) (h0 : ∀ D, H D = none → Pv D 0 (upd H D (.lst []))) (hl : ∀ D i H, i ≤ xs.length → Pv D i H → SqT K H a xs)
    (hs : ∀ D i x H, xs[i]? = some x → Pv D i H → g x (wipe σ vs) H fun σ2 H2 => wipe σ2 vs = wipe σ vs ∧ tt σ2 H2 fun b H3 =>
      if b = true then tx σ2 H3 fun y H4 => ∃ acc, H4 D = some (.lst acc) ∧ acc.length < sizeLine ∧ Pv D (i + 1) (upd H4 D (.lst (acc ++ [y]))) else Pv D (i + 1) H3) (hd : ∀ D H, Pv D xs.length H → Q (.ref D) H) :
    ∃ a', V.ref a = .ref a' ∧ (((∃ xs, SqL K H a' xs) ∧ rawC (Itl K a') g tt tx vs σ H Q) ∨ ((∃ xs, SqT K H a' xs) ∧ rawC (Itt K a') g tt tx vs σ H Q)) :=
  ⟨a, rfl, .inr ⟨⟨xs, h⟩, fun D hD => lc_tup (Pv D) (h0 D hD) (hl D) (hs D) (hd D)⟩⟩
theorem x_lcN {g : TG} {tt : TT} {tx : TE} {vs : List Nat} {m : Nat} (Pv : Addr → Nat → Hp → Prop) (h0 : ∀ D, H D = none → Pv D 0 (upd H D (.lst [])))
    (hs : ∀ D i H, i < m → Pv D i H → g (.int (i : Int)) (wipe σ vs) H fun σ2 H2 => wipe σ2 vs = wipe σ vs ∧ tt σ2 H2 fun b H3 =>
      if b = true then tx σ2 H3 fun y H4 => ∃ acc, H4 D = some (.lst acc) ∧ acc.length < sizeLine ∧ Pv D (i + 1) (upd H4 D (.lst (acc ++ [y]))) else Pv D (i + 1) H3) (hd : ∀ D H, Pv D m H → Q (.ref D) H) : rawC (Itr 0 m) g tt tx vs σ H Q := fun D hD =>
  lc_range (Pv D) (h0 D hD) (fun i H hi hp => by
    rw [Int.zero_add]
    exact hs D i H hi hp) (hd D)
theorem x_tYes (q : QB true H) : tYes σ H QB := q
end
end Bx
namespace Bx
open PySem L2
/-! ### heaps: all but ex stays -/
def Kp (ex : List Addr) (H H' : Hp) : Prop := ∀ a o, a ∉ ex → H a = some o → H' a = some o
def Live (ex : List Addr) (H : Hp) : Prop := ∀ a, a ∈ ex → ∃ o, H a = some o
section
variable {ex ex' : List Addr} {sp p a row : Addr} {H H1 H2 H' : Hp} {o u : HO} {K : PySem.W.Frag} {xs : List V} {v : V}
theorem upd_get (h : H p = none) (e : H a = some o) : upd H p u a = some o := by
  rw [upd_ne (ne_of_none e h)]; exact e
theorem upd_get' (h : a ≠ p) (e : H a = some o) : upd H p u a = some o := by
  rw [upd_ne h]; exact e
theorem new_ne (h : H p = none) (e : H a = some o) : p ≠ a := fun z => by rw [z, e] at h; cases h
theorem Live.new (L : Live ex H) (h : H p = none) : p ∉ ex := fun z => by
  obtain ⟨o, e⟩ := L p z
  rw [h] at e; cases e
theorem Live.same (L : Live ex H) (s : Same H H1) : Live ex H1 := fun a h => by
  obtain ⟨o, e⟩ := L a h
  exact ⟨o, s _ _ e⟩
theorem Live.cons (L : Live ex H) (h : H p = some o) : Live (p :: ex) H := fun a z => by
  rcases List.mem_cons.mp z with rfl | z
  · exact ⟨o, h⟩
  · exact L a z
theorem Live.upd (L : Live ex H) : Live ex (upd H p o) := fun a h => by
  by_cases z : a = p
  · subst z; exact ⟨o, upd_same⟩
  · obtain ⟨u, e⟩ := L a h
    exact ⟨u, upd_get' z e⟩
theorem Live.nil : Live [] H := fun a h => nomatch h
theorem Live.one (h : H p = some o) : Live [p] H := Live.nil.cons h
theorem Kp.refl : Kp ex H H := fun _ _ _ h => h
theorem Kp.trans (x : Kp ex H H1) (y : Kp ex H1 H2) : Kp ex H H2 := fun a o n h => y a o n (x a o n h)
theorem Kp.new (x : Kp ex H H1) (h : H1 p = none) : Kp ex H (upd H1 p o) := fun a u n e => by
  rw [upd_ne (ne_of_none (x a u n e) h)]; exact x a u n e
theorem Kp.mut (x : Kp ex H H1) (h : p ∈ ex) : Kp ex H (upd H1 p o) := fun a u n e => by
  rw [upd_ne (fun z => n (by rw [z]; exact h))]; exact x a u n e
theorem Kp.mono (x : Kp ex H H1) (h : ∀ a, a ∈ ex → a ∈ ex') : Kp ex' H H1 := fun a u n e => x a u (fun z => n (h a z)) e
theorem Kp.more (x : Kp ex H H1) : Kp (p :: ex) H H1 := x.mono fun _ h => List.mem_cons_of_mem _ h
theorem Kp.same (x : Kp ex H H1) (y : Same H1 H2) : Kp ex H H2 := fun a o n h => y a o (x a o n h)
theorem Same.kp (y : Same H H1) : Kp ex H H1 := fun a o _ h => y a o h
theorem Same.new (x : Same H H1) (h : H1 p = none) : Same H (upd H1 p o) := fun a u e => by
  rw [upd_ne (ne_of_none (x a u e) h)]; exact x a u e
/-- an object that H does not know may change -/
theorem Kp.own (x : Kp ex H H1) (h : H p = none) : Kp ex H (upd H1 p o) := fun a u n e => by
  rw [upd_ne (ne_of_none e h)]; exact x a u n e
theorem Same.own (x : Same H H1) (h : H p = none) : Same H (upd H1 p o) := fun a u e => by
  rw [upd_ne (ne_of_none e h)]; exact x a u e
theorem Same.none (x : Same H H1) (h : H1 p = Option.none) : H p = Option.none := by
  cases q : H p with
  | none => rfl
  | some o => rw [x p o q] at h; cases h
theorem Kp.none (x : Kp ex H H1) (n : p ∉ ex) (h : H1 p = Option.none) : H p = Option.none := by
  cases q : H p with
  | none => rfl
  | some o => rw [x p o n q] at h; cases h
/-! ### the draws -/
structure Wd (H : Hp) (row sp : Addr) : Prop where
  ex : ∃ (s : Int) (rs : List Int), 0 ≤ s ∧ H sp = some (.lst [.int s]) ∧ H row = some (.lst (rs.map V.int)) ∧ rs ≠ [] ∧ rs.length ≤ 4000
  ne : row ≠ sp
theorem Wd.new (W : Wd H row sp) (h : H p = none) : Wd (upd H p o) row sp := by
  obtain ⟨⟨s, rs, a, b, c, d⟩, e⟩ := W
  exact ⟨⟨s, rs, a, upd_get h b, upd_get h c, d⟩, e⟩
theorem Wd.same (W : Wd H row sp) (h : Same H H1) : Wd H1 row sp := by
  obtain ⟨⟨s, rs, a, b, c, d⟩, e⟩ := W
  exact ⟨⟨s, rs, a, h _ _ b, h _ _ c, d⟩, e⟩
theorem Wd.live (W : Wd H row sp) : Live [sp] H := by
  obtain ⟨⟨s, rs, a, b, c, d⟩, e⟩ := W
  exact Live.one b
theorem Wd.sp_ne (W : Wd H row sp) (h : H p = none) : p ≠ sp := by
  obtain ⟨⟨s, rs, a, b, c, d⟩, e⟩ := W
  exact new_ne h b
/-- an own object that is neither -/
theorem Wd.own (W : Wd H row sp) (h : p ≠ sp) (h2 : p ≠ row) : Wd (upd H p o) row sp := by
  obtain ⟨⟨s, rs, a, b, c, d⟩, e⟩ := W
  exact ⟨⟨s, rs, a, upd_get' (Ne.symm h) b, upd_get' (Ne.symm h2) c, d⟩, e⟩
theorem Wd.row_ne (W : Wd H row sp) (h : H p = none) : p ≠ row := by
  obtain ⟨⟨s, rs, a, b, c, d⟩, e⟩ := W
  exact new_ne h c
theorem not1 (h : p ≠ sp) : p ∉ [sp] := fun z => h (List.mem_singleton.mp z)
end
/-! ### data -/
inductive Da where
  | non | bl (b : Bool) | int (i : Int) | str (s : Str) | tup (l : List Da) | lst (l : List Da)
inductive Rp (ex : List Addr) (H : Hp) : V → Da → Prop where
  | non : Rp ex H .non .non
  | bl (b : Bool) : Rp ex H (.bl b) (.bl b)
  | int (i : Int) : Rp ex H (.int i) (.int i)
  | str (s : Str) : Rp ex H (.str s) (.str s)
  | tup {a : Addr} {xs : List V} {ds : List Da} (n : a ∉ ex) (e : H a = some (.tup xs)) (l : xs.length = ds.length) (h : ∀ (i : Nat) (x : V) (d : Da), xs[i]? = some x → ds[i]? = some d → Rp ex H x d) : Rp ex H (.ref a) (.tup ds)
  | lst {a : Addr} {xs : List V} {ds : List Da} (n : a ∉ ex) (e : H a = some (.lst xs)) (l : xs.length = ds.length) (h : ∀ (i : Nat) (x : V) (d : Da), xs[i]? = some x → ds[i]? = some d → Rp ex H x d) : Rp ex H (.ref a) (.lst ds)
section
variable {ex ex' : List Addr} {sp p a row : Addr} {H H1 H2 H' : Hp} {o u : HO} {K : PySem.W.Frag} {xs : List V} {v : V} {d : Da} {ds : List Da}
theorem Rp.kp (h : Rp ex H v d) (k : Kp ex H H1) : Rp ex H1 v d := by
  induction h with
  | non => exact .non
  | bl b => exact .bl b
  | int i => exact .int i
  | str s => exact .str s
  | tup n e l _ ih => exact .tup n (k _ _ n e) l ih
  | lst n e l _ ih => exact .lst n (k _ _ n e) l ih
theorem Rp.same (h : Rp ex H v d) (k : Same H H1) : Rp ex H1 v d := h.kp (Same.kp k)
theorem Rp.less (h : Rp ex H v d) (k : ∀ a, a ∈ ex' → a ∈ ex) : Rp ex' H v d := by
  induction h with
  | non => exact .non
  | bl b => exact .bl b
  | int i => exact .int i
  | str s => exact .str s
  | tup n e l _ ih => exact .tup (fun z => n (k _ z)) e l ih
  | lst n e l _ ih => exact .lst (fun z => n (k _ z)) e l ih
theorem Rp.tail (h : Rp (p :: ex) H v d) : Rp ex H v d := h.less fun _ z => List.mem_cons_of_mem _ z
/-- what H holds is not at p, which it does not know -/
theorem Rp.grow (h : Rp ex H v d) (k : H p = none) : Rp (p :: ex) H v d := by
  induction h with
  | non => exact .non
  | bl b => exact .bl b
  | int i => exact .int i
  | str s => exact .str s
  | tup n e l _ ih => exact .tup (fun z => (List.mem_cons.mp z).elim (fun z => new_ne k e z.symm) n) e l ih
  | lst n e l _ ih => exact .lst (fun z => (List.mem_cons.mp z).elim (fun z => new_ne k e z.symm) n) e l ih
/-- many values -/
def Rps (ex : List Addr) (H : Hp) (xs : List V) (ds : List Da) : Prop := xs.length = ds.length ∧ ∀ (i : Nat) (x : V) (d : Da), xs[i]? = some x → ds[i]? = some d → Rp ex H x d
theorem Rps.nil : Rps ex H [] [] := ⟨rfl, fun i x d h => by simp at h⟩
theorem Rps.cons (h : Rp ex H v d) (t : Rps ex H xs ds) : Rps ex H (v :: xs) (d :: ds) := ⟨by simp [t.1], fun i x e h1 h2 => by
  cases i with
  | zero => cases h1; cases h2; exact h
  | succ i => exact t.2 i x e h1 h2⟩
theorem rps_kp (h : Rps ex H xs ds) (k : Kp ex H H1) : Rps ex H1 xs ds := ⟨h.1, fun i x d a b => (h.2 i x d a b).kp k⟩
theorem rps_same (h : Rps ex H xs ds) (k : Same H H1) : Rps ex H1 xs ds := rps_kp h (Same.kp k)
theorem rps_tail (h : Rps (p :: ex) H xs ds) : Rps ex H xs ds := ⟨h.1, fun i x d a b => (h.2 i x d a b).tail⟩
theorem rps_less (h : Rps ex H xs ds) (k : ∀ a, a ∈ ex' → a ∈ ex) : Rps ex' H xs ds := ⟨h.1, fun i x d a b => (h.2 i x d a b).less k⟩
theorem rps_grow (h : Rps ex H xs ds) (k : H p = none) : Rps (p :: ex) H xs ds := ⟨h.1, fun i x d a b => (h.2 i x d a b).grow k⟩
theorem rps_append {ys : List V} {es : List Da} (t : Rps ex H xs ds) (s : Rps ex H ys es) : Rps ex H (xs ++ ys) (ds ++ es) := ⟨by simp [t.1, s.1], fun i x e h1 h2 => by
  by_cases q : i < xs.length
  · rw [List.getElem?_append_left q] at h1
    rw [List.getElem?_append_left (by rw [← t.1]; exact q)] at h2
    exact t.2 i x e h1 h2
  · have q' : xs.length ≤ i := by omega
    rw [List.getElem?_append_right q'] at h1
    rw [List.getElem?_append_right (by rw [← t.1]; exact q')] at h2
    rw [t.1] at h1
    exact s.2 _ x e h1 h2⟩
theorem rps_snoc (t : Rps ex H xs ds) (h : Rp ex H v d) : Rps ex H (xs ++ [v]) (ds ++ [d]) := rps_append t (.cons h .nil)
theorem rps_get (t : Rps ex H xs ds) {i : Nat} (h : ds[i]? = some d) : ∃ x, xs[i]? = some x ∧ Rp ex H x d := by
  have hi : i < xs.length := by rw [t.1]; exact (List.getElem?_eq_some_iff.mp h).1
  exact ⟨xs[i], List.getElem?_eq_getElem hi, t.2 i _ d (List.getElem?_eq_getElem hi) h⟩
theorem rps_at (t : Rps ex H xs ds) {i : Nat} {x : V} (h : xs[i]? = some x) : ∃ d, ds[i]? = some d ∧ Rp ex H x d := by
  have hi : i < ds.length := by rw [← t.1]; exact (List.getElem?_eq_some_iff.mp h).1
  exact ⟨ds[i], List.getElem?_eq_getElem hi, t.2 i _ _ h (List.getElem?_eq_getElem hi)⟩
theorem rps_tup (h : Rps ex H xs ds) (n : a ∉ ex) (e : H a = some (.tup xs)) : Rp ex H (.ref a) (.tup ds) := .tup n e h.1 h.2
theorem rps_lst (h : Rps ex H xs ds) (n : a ∉ ex) (e : H a = some (.lst xs)) : Rp ex H (.ref a) (.lst ds) := .lst n e h.1 h.2
theorem Rp.tupI (h : Rp ex H v (.tup ds)) : ∃ a xs, v = .ref a ∧ a ∉ ex ∧ H a = some (.tup xs) ∧ Rps ex H xs ds := by
  cases h with
  | tup n e l h => exact ⟨_, _, rfl, n, e, l, h⟩
theorem Rp.lstI (h : Rp ex H v (.lst ds)) : ∃ a xs, v = .ref a ∧ a ∉ ex ∧ H a = some (.lst xs) ∧ Rps ex H xs ds := by
  cases h with
  | lst n e l h => exact ⟨_, _, rfl, n, e, l, h⟩
theorem Rp.intI {i : Int} (h : Rp ex H v (.int i)) : v = .int i := by cases h; rfl
theorem Rp.strI {s : Str} (h : Rp ex H v (.str s)) : v = .str s := by cases h; rfl
theorem Rp.nonI (h : Rp ex H v .non) : v = .non := by cases h; rfl
theorem Rp.blI {b : Bool} (h : Rp ex H v (.bl b)) : v = .bl b := by cases h; rfl
/-- ints -/
theorem rps_ints (ns : List Int) : Rps ex H (ns.map V.int) (ns.map Da.int) := ⟨by simp, fun i x d h1 h2 => by
  rw [List.getElem?_map] at h1 h2
  cases z : ns[i]? with
  | none => rw [z] at h1; cases h1
  | some m => rw [z] at h1 h2; cases h1; cases h2; exact .int m⟩
/-! ### their types -/
def Da.ty : Da → String
  | .non => "NoneType" | .bl _ => "bool" | .int _ => "int" | .str _ => "str" | .tup _ => "tuple" | .lst _ => "list"
theorem Rp.tyx (h : Rp ex H v d) : TyX K H v (.type d.ty) := by
  cases h with
  | non => exact .base .non
  | bl b => exact .base (.bl b)
  | int i => exact .base (.int i)
  | str s => exact .base (.str s)
  | tup n e l h => exact .base (.tup e)
  | lst n e l h => exact .base (.lst e)
/-- isinstance(v, T) -/
def Da.isa (d : Da) (T : String) : Bool := match d with
  | .non => T == "NoneType" | .bl _ => T == "bool" || T == "int" | .int _ => T == "int" | .str _ => T == "str" | .tup _ => T == "tuple" | .lst _ => T == "list"
theorem Da.kit {T : String} (d : Da) (h : T ∈ ["bool", "int", "str", "tuple", "list"]) : PySem.W.kitOne K (.type d.ty) (.type T) = some (d.isa T) := by
  simp only [List.mem_cons, List.not_mem_nil, or_false] at h
  rcases h with rfl | rfl | rfl | rfl | rfl <;> cases d <;> (dsimp only [Da.ty, Da.isa]; exact kit_ty (by decide +kernel))
theorem x_isa {Q : VK} {T : String} (h : Rp ex H v d) (hT : T ∈ ["bool", "int", "str", "tuple", "list"]) (q : Q (.bl (d.isa T)) H) : rIsi K [v, .ty T] H Q :=
  ⟨v, .ty T, .type d.ty, .type T, d.isa T, rfl, .ty T, h.tyx, d.kit hT, q⟩
theorem x_isaB {Q : VK} {T : String} {b : Bool} (h : Rp ex H v d) (hT : T ∈ ["bool", "int", "str", "tuple", "list"]) (hb : d.isa T = b) (q : Q (.bl b) H) : rIsi K [v, .ty T] H Q := x_isa h hT (by rw [hb]; exact q)
theorem x_eqR {Q : VK} (h : scal v v = true) (q : Q (.bl true) H) : rEqX K v v H Q := .inl ⟨h, by rw [decide_eq_true rfl]; exact q⟩
theorem x_isLT {Q : VK} {t : Addr} (h : Rp ex H v d) (e : H t = some (.tup [.ty "list", .ty "tuple"])) (q : Q (.bl (d.isa "list" || d.isa "tuple")) H) : rIsiT K [v, .ref t] H Q := by
  refine ⟨v, t, [.ty "list", .ty "tuple"], .type d.ty, [.type "list", .type "tuple"], (d.isa "list" || d.isa "tuple"), rfl, e, .cons (.ty _) (.cons (.ty _) .nil), h.tyx, ?_, q⟩
  have h1 := d.kit (K := K) (T := "list") (by decide)
  have h2 := d.kit (K := K) (T := "tuple") (by decide)
  refine kitAny_cons h1 (fun e => ?_) (fun e => by rw [e]; rfl)
  refine kitAny_cons h2 (fun e2 => ?_) (fun e2 => by rw [e2, Bool.or_true])
  rw [e, e2]
  exact kitAny_nil
theorem x_lenR {Q : VK} (h : Rp ex H v d) (hd : d = .tup ds ∨ d = .lst ds) (q : Q (.int (ds.length : Int)) H) :
    rLen K [v] H Q := by
  rcases hd with rfl | rfl
  · obtain ⟨a, xs, rfl, n, e, r⟩ := h.tupI
    exact ⟨a, xs, rfl, .inr (SqT.of e), by rw [r.1]; exact q⟩
  · obtain ⟨a, xs, rfl, n, e, r⟩ := h.lstI
    exact ⟨a, xs, rfl, .inl (SqL.of e), by rw [r.1]; exact q⟩
theorem x_lenL {Q : VK} (h : H p = some (.lst xs)) (q : Q (.int (xs.length : Int)) H) :
    rLen K [.ref p] H Q := ⟨p, xs, rfl, .inl (SqL.of h), q⟩
theorem x_lenT {Q : VK} (h : H p = some (.tup xs)) (q : Q (.int (xs.length : Int)) H) :
    rLen K [.ref p] H Q := ⟨p, xs, rfl, .inr (SqT.of h), q⟩
end
/-! ### pure data of a depth; the same in lists -/
inductive Dn : Nat → Da → Prop where
  | non {n} : Dn (n + 1) .non
  | bl {n} (b : Bool) : Dn (n + 1) (.bl b)
  | int {n} (i : Int) : Dn (n + 1) (.int i)
  | str {n} (s : Str) : Dn (n + 1) (.str s)
  | tup {n} {l : List Da} (hl : l.length ≤ 1000) (h : ∀ d, d ∈ l → Dn n d) : Dn (n + 1) (.tup l)
theorem Dn.mono {n m : Nat} {d : Da} (h : Dn n d) : n ≤ m → Dn m d := by
  induction h generalizing m with
  | non => intro z; cases m with | zero => omega | succ m => exact .non
  | bl b => intro z; cases m with | zero => omega | succ m => exact .bl b
  | int i => intro z; cases m with | zero => omega | succ m => exact .int i
  | str s => intro z; cases m with | zero => omega | succ m => exact .str s
  | tup hl h ih => intro z; cases m with | zero => omega | succ m => exact .tup hl fun d hd => ih d hd (by omega)
mutual
def Da.listed : Da → Da
  | .tup l => .lst (listedL l)
  | d => d
def listedL : List Da → List Da
  | [] => []
  | d :: l => d.listed :: listedL l
end
theorem listedL_eq (l : List Da) : listedL l = l.map Da.listed := by
  induction l with
  | nil => rfl
  | cons d l ih => rw [listedL, List.map_cons, ih]
theorem listed_tup (l : List Da) : (Da.tup l).listed = .lst (l.map Da.listed) := by
  rw [Da.listed, listedL_eq]
end Bx
namespace Bx
open PySem L2
section
variable {H : Hp} {Q : VK} {i j : Int} {xs : List V} {m : Nat} {p : Addr} {K : PySem.W.Frag} {v : V} {P : Prop}
theorem sz {n : Nat} (h : n ≤ 100000) : n ≤ sizeLine := Nat.le_trans h (by decide)
theorem szl {n : Nat} (h : n < 100000) : n < sizeLine := Nat.lt_of_lt_of_le h (by decide)
theorem x_exI {P : Int → Prop} (q : P i) : ∃ j, V.int i = V.int j ∧ P j := ⟨i, rfl, q⟩
theorem x_mkt (hm : xs.length = m) (h : m ≤ 100000) (q : ∀ p, H p = none → Q (.ref p) (upd H p (.tup xs))) : mkT xs H Q := ⟨by rw [hm]; exact sz h, q⟩
theorem x_mkl (hm : xs.length = m) (h : m ≤ 100000) (q : ∀ p, H p = none → Q (.ref p) (upd H p (.lst xs))) : mkL xs H Q := ⟨by rw [hm]; exact sz h, q⟩
theorem x_bmL {f : Prop} (h : H p = some (.lst xs)) (q : f) : tyV K "list" (.ref p) H ∧ f := ⟨.inl ⟨rfl, xs, SqL.of h⟩, q⟩
theorem cmulL {i j : Int} (h1 : -(2 ^ 64) < i) (h2 : i < 2 ^ 64) : CMul i j := .inl ⟨h1, h2⟩
theorem cmulR {i j : Int} (h1 : -(2 ^ 64) < j) (h2 : j < 2 ^ 64) : CMul i j := .inr ⟨h1, h2⟩
theorem map_snoc (rs : List Int) (w : Int) : rs.map V.int ++ [V.int w] = (rs ++ [w]).map V.int := by simp
theorem x_start {N : List Str} {vs : List V} {t : TS} {D : Ends} {σ' : L2.St} (e : start N vs = σ') (h : t D σ' H) : t D (start N vs) H := e ▸ h
theorem ints_at {ns : List Int} {j : Nat} {z : Int} (h : ns[j]? = some z) : (ns.map V.int)[j]? = some (V.int z) := by rw [List.getElem?_map, h]; rfl
theorem x_lcS {σ : L2.St} {a : Addr} {g : TG} {tt : TT} {tx : TE} {vs : List Nat} (h : H a = some (.tup xs) ∨ H a = some (.lst xs)) (Pv : Addr → Nat → Hp → Prop) (h0 : ∀ D, H D = none → Pv D 0 (upd H D (.lst []))) (hl : ∀ D i H1, Pv D i H1 → Same H H1)
    (hs : ∀ D i x H, xs[i]? = some x → Pv D i H → g x (wipe σ vs) H fun σ2 H2 => wipe σ2 vs = wipe σ vs ∧ tt σ2 H2 fun b H3 =>
      if b = true then tx σ2 H3 fun y H4 => ∃ acc, H4 D = some (.lst acc) ∧ acc.length < sizeLine ∧ Pv D (i + 1) (upd H4 D (.lst (acc ++ [y]))) else Pv D (i + 1) H3) (hd : ∀ D H, Pv D xs.length H → Q (.ref D) H) :
    ∃ a', V.ref a = .ref a' ∧ (((∃ xs, SqL K H a' xs) ∧ rawC (Itl K a') g tt tx vs σ H Q) ∨ ((∃ xs, SqT K H a' xs) ∧ rawC (Itt K a') g tt tx vs σ H Q)) := by
  rcases h with h | h
  · exact x_lcT (SqT.of h) Pv h0 (fun D i H1 _ p => SqT.of (hl D i H1 p _ _ h)) hs hd
  · exact x_lcL (SqL.of h) Pv h0 (fun D i H1 _ p => SqL.of (hl D i H1 p _ _ h)) hs hd
theorem x_lenS {p : Addr} (h : H p = some (.tup xs) ∨ H p = some (.lst xs)) (q : Q (.int (xs.length : Int)) H) : rLen K [.ref p] H Q := h.elim (fun h => x_lenT h q) fun h => x_lenL h q
theorem x_ixS {p : Addr} {i : Int} (h : H p = some (.tup xs) ∨ H p = some (.lst xs)) (e : atI xs i = some v) (q : Q v H) : rIxX K (.ref p) (.int i) H Q := h.elim (fun h => x_ixT h e q) fun h => x_ixL h e q
/-- a sequence of data, a list or a tuple -/
def Da.seq (d : Da) (ds : List Da) : Prop := d = .tup ds ∨ d = .lst ds
theorem Rp.seqI {ex : List Addr} {d : Da} {ds : List Da} (h : Rp ex H v d) (e : d.seq ds) : ∃ a xs, v = .ref a ∧ a ∉ ex ∧ (H a = some (.tup xs) ∨ H a = some (.lst xs)) ∧ Rps ex H xs ds := by
  rcases e with rfl | rfl
  · obtain ⟨a, xs, e1, e2, e3, e4⟩ := h.tupI
    exact ⟨a, xs, e1, e2, .inl e3, e4⟩
  · obtain ⟨a, xs, e1, e2, e3, e4⟩ := h.lstI
    exact ⟨a, xs, e1, e2, .inr e3, e4⟩
theorem cut_from (xs : List V) (k : Nat) : cutV xs (some (k : Int)) none = xs.drop k := by
  unfold cutV
  rw [HT.sIx_nat, HT.sIx_none]
  by_cases h : k ≤ xs.length
  · rw [Nat.min_eq_left h, List.take_of_length_le (by rw [List.length_drop]; exact Nat.le_refl _)]
  · rw [Nat.min_eq_right (by omega), List.drop_eq_nil_of_le (Nat.le_refl _), List.drop_eq_nil_of_le (by omega), List.take_nil]
theorem cut_to (xs : List V) (k : Nat) : cutV xs none (some (k : Int)) = xs.take k := by
  unfold cutV
  rw [HT.sIx_nat, HT.sIx_none, List.drop_zero, Nat.sub_zero]
  by_cases h : k ≤ xs.length
  · rw [Nat.min_eq_left h]
  · rw [Nat.min_eq_right (by omega), List.take_of_length_le (Nat.le_refl _), List.take_of_length_le (by omega)]
section
variable {ex : List Addr} {d d' : Da} {ds es : List Da} {u : V} {z : Int}
theorem rps_take {n : Nat} (h : Rps ex H xs ds) : Rps ex H (xs.take n) (ds.take n) := ⟨by rw [List.length_take, List.length_take, h.1], fun i x d h1 h2 => by
  rw [List.getElem?_take] at h1 h2
  by_cases c : i < n
  · rw [if_pos c] at h1 h2; exact h.2 i x d h1 h2
  · rw [if_neg c] at h1; cases h1⟩
theorem rps_drop {n : Nat} (h : Rps ex H xs ds) : Rps ex H (xs.drop n) (ds.drop n) := ⟨by rw [List.length_drop, List.length_drop, h.1], fun i x d h1 h2 => by
  rw [List.getElem?_drop] at h1 h2
  exact h.2 _ x d h1 h2⟩
theorem x_mkT (r : Rps ex H xs ds) (L : Live ex H) (hl : ds.length ≤ 100000) (q : ∀ v' H', Same H H' → Rp ex H' v' (.tup ds) → Q v' H') : mkT xs H Q :=
  ⟨by rw [r.1]; exact sz hl, fun p hp => q _ _ (Same.new (Same.refl _) hp) (rps_tup (rps_same r (Same.new (Same.refl _) hp)) (L.new hp) upd_same)⟩
theorem x_mkL (r : Rps ex H xs ds) (L : Live ex H) (hl : ds.length ≤ 100000) (q : ∀ v' H', Same H H' → Rp ex H' v' (.lst ds) → Q v' H') : mkL xs H Q :=
  ⟨by rw [r.1]; exact sz hl, fun p hp => q _ _ (Same.new (Same.refl _) hp) (rps_lst (rps_same r (Same.new (Same.refl _) hp)) (L.new hp) upd_same)⟩
theorem x_slR {lo hi : Option Int} (h : Rp ex H v (.tup ds)) (L : Live ex H) (q : ∀ v' H' ds', Same H H' → Rp ex H' v' (.tup ds') → (∀ xs, Rps ex H xs ds → Rps ex H (cutV xs lo hi) ds' ) → Q v' H') (hd : ∃ ds', ∀ xs, Rps ex H xs ds → Rps ex H (cutV xs lo hi) ds') : rSlX K v lo hi H Q := by
  obtain ⟨ds', hc⟩ := hd
  obtain ⟨a, xs, rfl, n, e, r⟩ := h.tupI
  refine x_slT e (fun w => ?_) (fun _ p hp => q _ _ ds' (Same.new (Same.refl _) hp) (rps_tup (rps_same (hc xs r) (Same.new (Same.refl _) hp)) (L.new hp) upd_same) hc)
  have e2 : cutV xs lo hi = xs := by
    unfold cutV
    rw [w.1, w.2, List.drop_zero, Nat.sub_zero, List.take_length]
  have r2 := hc xs r
  rw [e2] at r2
  exact q _ _ ds' (Same.refl _) (rps_tup r2 n e) hc
theorem x_slFrom {k : Nat} (h : Rp ex H v (.tup ds)) (hz : z = (k : Int)) (L : Live ex H) (q : ∀ v' H', Same H H' → Rp ex H' v' (.tup (ds.drop k)) → Q v' H') : rSlX K v (some z) none H Q := by
  subst hz
  obtain ⟨a, xs, rfl, n, e, r⟩ := h.tupI
  have r2 : Rps ex H (cutV xs (some (k : Int)) none) (ds.drop k) := by rw [cut_from]; exact rps_drop r
  refine x_slT e (fun w => ?_) (fun _ p hp => q _ _ (Same.new (Same.refl _) hp) (rps_tup (rps_same r2 (Same.new (Same.refl _) hp)) (L.new hp) upd_same))
  have e2 : cutV xs (some (k : Int)) none = xs := by
    unfold cutV
    rw [w.1, w.2, List.drop_zero, Nat.sub_zero, List.take_length]
  rw [e2] at r2
  exact q _ _ (Same.refl _) (rps_tup r2 n e)
theorem x_slTo {k : Nat} (h : Rp ex H v (.tup ds)) (hz : z = (k : Int)) (L : Live ex H) (q : ∀ v' H', Same H H' → Rp ex H' v' (.tup (ds.take k)) → Q v' H') : rSlX K v none (some z) H Q := by
  subst hz
  obtain ⟨a, xs, rfl, n, e, r⟩ := h.tupI
  have r2 : Rps ex H (cutV xs none (some (k : Int))) (ds.take k) := by rw [cut_to]; exact rps_take r
  refine x_slT e (fun w => ?_) (fun _ p hp => q _ _ (Same.new (Same.refl _) hp) (rps_tup (rps_same r2 (Same.new (Same.refl _) hp)) (L.new hp) upd_same))
  have e2 : cutV xs none (some (k : Int)) = xs := by
    unfold cutV
    rw [w.1, w.2, List.drop_zero, Nat.sub_zero, List.take_length]
  rw [e2] at r2
  exact q _ _ (Same.refl _) (rps_tup r2 n e)
theorem x_addR (h1 : Rp ex H v (.tup ds)) (h2 : Rp ex H u (.tup es)) (hl : ds.length + es.length ≤ 100000) (L : Live ex H) (q : ∀ v' H', Same H H' → Rp ex H' v' (.tup (ds ++ es)) → Q v' H') : rAddX K v u H Q := by
  obtain ⟨a, xs, rfl, n1, e1, r1⟩ := id h1.tupI
  obtain ⟨b, ys, rfl, n2, e2, r2⟩ := id h2.tupI
  refine x_addT e1 e2 (by rw [r1.1, r2.1]; exact sz hl) (fun w => ?_) (fun _ w => ?_) (fun p hp => q _ _ (Same.new (Same.refl _) hp) (rps_tup (rps_same (rps_append r1 r2) (Same.new (Same.refl _) hp)) (L.new hp) upd_same))
  · subst w
    have e : ds = [] := List.length_eq_zero_iff.mp r1.1.symm
    subst e
    exact q _ _ (Same.refl _) h2
  · subst w
    have e : es = [] := List.length_eq_zero_iff.mp r2.1.symm
    subst e
    rw [List.append_nil] at q
    exact q _ _ (Same.refl _) h1
theorem x_addLR (h1 : Rp ex H v (.lst ds)) (h2 : Rp ex H u (.lst es)) (hl : ds.length + es.length ≤ 100000) (L : Live ex H) (q : ∀ v' H', Same H H' → Rp ex H' v' (.lst (ds ++ es)) → Q v' H') : rAddX K v u H Q := by
  obtain ⟨a, xs, rfl, n1, e1, r1⟩ := h1.lstI
  obtain ⟨b, ys, rfl, n2, e2, r2⟩ := h2.lstI
  exact x_addL e1 e2 (by rw [r1.1, r2.1]; exact sz hl) (fun p hp => q _ _ (Same.new (Same.refl _) hp) (rps_lst (rps_same (rps_append r1 r2) (Same.new (Same.refl _) hp)) (L.new hp) upd_same))
theorem rps_rep (r : Rps ex H xs ds) : ∀ k : Nat, Rps ex H (List.replicate k xs).flatten (List.replicate k ds).flatten
  | 0 => .nil
  | k + 1 => by
    rw [List.replicate_succ, List.replicate_succ, List.flatten_cons, List.flatten_cons]
    exact rps_append r (rps_rep r k)
theorem x_repR (h1 : Rp ex H v (.tup ds)) (h0 : ds ≠ []) (hl : ds.length ≤ 1000) (h2 : 2 ≤ z) (h3 : z ≤ 1000) (L : Live ex H) (q : ∀ v' H', Same H H' → Rp ex H' v' (.tup (List.replicate z.toNat ds).flatten) → Q v' H') : rMulX K v (.int z) H Q := by
  obtain ⟨a, xs, rfl, n1, e1, r1⟩ := h1.tupI
  exact x_repT e1 (fun w => h0 (List.length_eq_zero_iff.mp (by rw [← r1.1, w]; rfl))) h2 h3 (by rw [r1.1]; exact hl) fun p hp => q _ _ (Same.new (Same.refl _) hp) (rps_tup (rps_same (rps_rep r1 _) (Same.new (Same.refl _) hp)) (L.new hp) upd_same)
theorem x_ixR {i : Nat} (h : Rp ex H v d) (hs : d.seq ds) (e : ds[i]? = some d') (hz : z = (i : Int)) (q : ∀ x, Rp ex H x d' → Q x H) : rIxX K v (.int z) H Q := by
  subst hz
  obtain ⟨a, xs, rfl, n, e1, r⟩ := h.seqI hs
  obtain ⟨x, g, rx⟩ := rps_get r e
  exact x_ixS e1 (atI_nat g) (q x rx)
end
theorem get_ex {α : Type} {l : List α} {i n : Nat} (hn : l.length = n) (h : i < n) : ∃ d, l[i]? = some d := ⟨_, List.getElem?_eq_getElem (by rw [hn]; exact h)⟩
theorem x_try {C : Addr} {i : Nat} {tb : WX → TS} {ts : Addr → Value → Option Addr → TS} {Wo : WX} {σ : L2.St} {n b c : L2.St → Hp → Prop} {r : VK} (q : tb (wAs K (.ref C) i ts Wo ⟨n, r, b, c⟩) ⟨n, r, b, c⟩ σ H) : tTry K C i tb ts Wo ⟨n, r, b, c⟩ σ H := q
theorem x_allB {a : Addr} (bs : List Bool) (h : H a = some (.lst (bs.map V.bl))) (q : Q (.bl (bs.all id)) H) : rAll K [.ref a] H Q := ⟨a, bs, rfl, SqL.of h, q⟩
end
end Bx

namespace Bx
open PySem PySem.W PySem.Calls PyProof.Rows PySem.HandSPX
open Builtin Builtin.ObjectAttr
/-! ### own errors over Exception: the row of classes, the first field stored -/
abbrev exEnd : List Value := [.type "Exception", .type "BaseException", .type "object"]
/-- own classes, then Exception's own row -/
def exRow : List Value → Bool
  | .ref _ :: r => exRow r
  | l => l == exEnd
theorem exRow_two (l : List Value) (e : exRow l = true) : (∃ c r, l = .ref c :: r ∧ exRow r = true) ∨ l = exEnd := by
  match l, e with
  | .ref c :: r, e => exact .inl ⟨c, r, rfl, e⟩
  | [], e => exact .inr (beq_iff_eq.mp e)
  | .none :: _, e => exact .inr (beq_iff_eq.mp e)
  | .ellipsis :: _, e => exact .inr (beq_iff_eq.mp e)
  | .notImplemented :: _, e => exact .inr (beq_iff_eq.mp e)
  | .bool _ :: _, e => exact .inr (beq_iff_eq.mp e)
  | .int _ _ :: _, e => exact .inr (beq_iff_eq.mp e)
  | .float _ _ :: _, e => exact .inr (beq_iff_eq.mp e)
  | .str _ _ :: _, e => exact .inr (beq_iff_eq.mp e)
  | .bytes _ _ :: _, e => exact .inr (beq_iff_eq.mp e)
  | .type _ :: _, e => exact .inr (beq_iff_eq.mp e)
  | .builtin _ :: _, e => exact .inr (beq_iff_eq.mp e)
theorem exRow_loop (self : Value) (l : List Value) : exRow l = true → refuseLoop self "__setattr__" l = pure () := by
  induction l with
  | nil => exact fun e => absurd e (by decide)
  | cons a r ih =>
    intro e
    rcases exRow_two _ e with ⟨c, r', q, h⟩ | q
    · obtain ⟨rfl, rfl⟩ := List.cons.inj q
      exact (refuseLoop_ref ..).trans (ih h)
    · rw [q]; exact F.store_Exception.passes self
theorem exRow_has (X : String) (l : List Value) : exRow l = true → l.contains (.type X) = exEnd.contains (.type X) := by
  induction l with
  | nil => exact fun e => absurd e (by decide)
  | cons a r ih =>
    intro e
    rcases exRow_two _ e with ⟨c, r', q, h⟩ | q
    · obtain ⟨rfl, rfl⟩ := List.cons.inj q
      exact (List.contains_cons ..).trans ((by rw [ih h]; rfl))
    · rw [q]
theorem exRow_some {l : List Value} (e : exRow l = true) : l.isEmpty = false := by
  cases l with
  | nil => exact absurd e (by decide)
  | cons _ _ => rfl
theorem one_size (v : Value) : [v].length ≤ sizeLine := Nat.le_trans (show 1 ≤ 1000 by decide) (by decide)
theorem slot_ld {M : Model} {s : Shared} {name : Str} {scope : Scope} {L a : Addr} {cd : Value} {m : Str → Option Value} {x : Str} {pos : Pos} {v : Value} {Q : Value → Shared → Prop} {A : Around} {E : Value → Shared → Prop} (hn : s.heap.Ns L m) (hv : m x = some v) (h : Q v s)
    (hk : scope.kind = .function := by rfl) (hl : (envOfC name scope L a cd).kindOf x = some .local := by rfl) (hd : (x == ("__debug__" : Str)) = false := by decide) :
    wpAny M A (eval (.Name x pos) (envOfC name scope L a cd)) Q E s := wpAny_Name (wpAny_loadName_local hk hl hn hv h) hd
section
variable {prog : Program} {w : World} {A : Around} {R : Result → Shared → Prop} {hp : Heap} {g : Array GenState} {d : Drawn} {t : Nat} {os : OsState}
theorem first_store {K : W.Frag} {name : Str} {tk : Tok} {v : Value} {x C : Addr} {fv : Array Value} {cd : ClassData}
    (X : K.In hp) (hx : hp.get? x = some { cls := .ref C, data := .fields fv }) (hcd : W.clsIn K C = some cd) (hm : exRow cd.mro = true) (hh : cd.hasDict = true) (ha : W.findIn K (.ref C) name = some none)
    (hq : ∀ h' tk' dx, (∀ b o, b ≠ x → hp.get? b = some o → h'.get? b = some o) → hp.objs.size ≤ dx → dx ≠ x → h'.get? x = some { cls := .ref C, dict := some dx, data := .fields fv } →
      h'.Ns1 dx (fun y => if y = name then some v else none) → R (.ok (.ret .none)) ⟨h', g, d, tk', os⟩) :
    codeAny (model prog w) A (.call (.builtin "object.__setattr__") ⟨[.ref x, .str name tk, v], []⟩) R ⟨hp, g, d, t, os⟩ := by
  have I : W.InstAt hp x { cls := .ref C, data := .fields fv } C none := ⟨hx, rfl, rfl, trivial⟩
  have hob : cd.mro.contains (.type "object") = true := (exRow_has "object" _ hm).trans (by decide +kernel)
  have hxs : x ≠ hp.objs.size := Nat.ne_of_lt (Heap.lt_size hx)
  have sub : W.Looks (model prog w) hp (isInstance (.ref x) (.type "object")) true := I.type.andThen (W.looks_mroIn X (by unfold W.mroIn; rw [hcd, Option.bind_some, if_neg (by rw [exRow_some hm]; decide), hob]))
  refine codeAny_call_builtin F.store_object.slot.plain F.store_object.entry (@W.check_slot (model prog w) _ _ ⟨hp, g, d, t, os⟩ "object.__setattr__" "object" "__setattr__" (.ref x) [.str name tk, v] [] _ F.store_object.kind F.store_object.split sub (F.store_object.args (.ref x) (.str name tk) v) ?_)
  have hmr : W.Looks (model prog w) hp (mroOf (.ref C)) cd.mro := (W.looks_clsIn X hcd).andThen .now
  have hst : W.Looks (model prog w) hp (storeTaker? none) none := .now
  have hcls : W.Looks (model prog w) hp (classData C) cd := W.looks_clsIn X hcd
  rw [W.osa_eq, refuse_eq]
  refine wpAny_bind (wpAny_bind (I.type.at (wpAny_bind (hmr.at ?_))))
  rw [exRow_loop _ _ hm]
  refine wpAny_pure (wpAny_bind (I.type.at (wpAny_bind ((W.looks_findIn X ha).at (wpAny_bind (hst.at ?_))))))
  show wpAny _ _ (storeInOwnDict (.ref x) (.ref C) (.str name tk) name v false) _ _ _
  obtain ⟨nm, bs, mro, ns, qn, hd, sn, sb, ab, col, del⟩ := cd
  dsimp only at hh
  subst hh
  unfold storeInOwnDict ownDictForStores
  repeat (first | with_reducible refine store_in_new ?_ ?_ | with_reducible refine wpAny_loadPart_at hx ?_ | with_reducible refine hcls.at ?_ | wp_step)
  · exact ⟨_, #[], _, (Heap.get?_update_ne _ _ _ _ hxs.symm).trans (Heap.get?_push_at rfl rfl), rfl, fun e he => absurd he (by simp), fun _ => rfl⟩
  · intro h' tk' hn' hs
    have hx₁ : (hp.push { cls := .type "dict", data := .dict #[] }).get? x = some { cls := .ref C, data := .fields fv } := Heap.get?_push_of_some _ hx
    refine hq h' tk' hp.objs.size (fun b o hb ho => ?_) (Nat.le_refl _) hxs.symm ?_ hn'
    · exact (hs.2 b (Nat.ne_of_lt (Heap.lt_size ho))).trans ((Heap.get?_update_ne _ _ _ _ hb).trans (Heap.get?_push_of_some _ ho))
    · exact (hs.2 x hxs).trans (Heap.get?_update_self _ hx₁ rfl)
end
/-- an error of the class at S is what «except S» names -/
theorem names_self {K : Frag} {S : Addr} (h1 : subIn K (.ref S) (.type "BaseException") = some true) (h2 : isClsIn K S = true) (h3 : typeIn K (.ref S) = some (.type "type")) (h4 : subIn K (.ref S) (.ref S) = some true) :
    exmOne K (.ref S) (.ref S) = some true := by
  have e1 : (subIn K (.ref S) (.type "BaseException") == some true) = true := by rw [h1] <;> rfl
  have e2 : ((clsIn K S).isSome && typeIn K (.ref S) == some (.type "type")) = true := by
    have h2' : (clsIn K S).isSome = true := h2
    rw [h2', h3] <;> rfl
  show (if (subIn K (.ref S) (.type "BaseException") == some true) = true then (if ((clsIn K S).isSome && typeIn K (.ref S) == some (.type "type")) = true then subIn K (.ref S) (.ref S) else none) else none) = some true
  rw [if_pos e1, if_pos e2]
  exact h4
end Bx

namespace Bx
namespace Eat
open PySem PySem.W PySem.Calls PyProof.Rows PySem.HandSPX
/-- the text of __init__(self, at) -/
def iA (p1 p2 : Pos) : Arguments := { posonlyargs := [], args := [{ arg := "self", annotation := none, pos := p1 }, { arg := "at", annotation := none, pos := p2 }], vararg := none, kwonlyargs := [], kw_defaults := [], kwarg := none, defaults := [] }
def iB (q1 q2 q3 q4 : Pos) : List Stmt := [.Assign [.Attribute (.Name "self" q1) "at" q2] (.Name "at" q3) q4]
def iS : Scope := { kind := .function, names := [(PySem.Str.ofString "self", .local), (PySem.Str.ofString "at", .local)], isGenerator := false, isCoroutine := false, more := [] }
/-- what stands of the class (named x, at C) and of its __init__ (at fI) -/
structure Tx (K : Frag) (mg : Str → Option Value) (x q : Str) (C fI : Addr) : Prop where
  gC : mg x = some (.ref C)
  cls : ∃ nm q N bs bm sn sub ab col dd k0 k1 k2 k3 k5, K.lookup C = some (excClassObj nm q C N bs bm true sn sub ab col dd k0 k1 k2 k3 k5 "Exception.__new__") ∧ exRow bm = true
  sa : findIn K (.ref C) "__setattr__" = some (some (.builtin "object.__setattr__"))
  ga : findIn K (.ref C) "__getattribute__" = some (some (.builtin "BaseException.__getattribute__"))
  gg : findIn K (.ref C) "__getattr__" = some none
  noN : findIn K (.ref C) "at" = some none
  iC : findIn K (.ref C) "__init__" = some (some (.ref fI))
  tC : typeIn K (.ref fI) = some (.type "function")
  kC : keepIn K (.ref C) = true
  exC : subIn K (.ref C) (.type "BaseException") = some true
  tyC : typeIn K (.ref C) = some (.type "type")
  hdC : hasDictIn K C = true
  te : exmOne K (.ref C) (.ref C) = some true
  fn : ∃ (oc : Value) (od : Option Addr) (doc pm : Value) (an : Option Addr) (cdv ct : Value) (osl : Array (Option Value)) (p1 p2 q1 q2 q3 q4 : Pos),
    K.lookup fI = some ⟨oc, od, .func (fnOf "__init__" q (iA p1 p2) (iB q1 q2 q3 q4) iS .none .none doc pm an cdv ct), osl⟩ ∧ codeIn K cdv q = true
structure InitEnd (h h' : Heap) (x C dx t1 : Addr) (v : Value) : Prop where
  keep : ∀ b o, b ≠ x → h.get? b = some o → h'.get? b = some o
  obj : h'.get? x = some { cls := .ref C, dict := some dx, data := .fields #[.ref t1, .none, .none, .none, .bool false, .none] }
  dbig : h.objs.size ≤ dx
  dne : dx ≠ x
  ns : h'.Ns1 dx (fun y => if y = "at" then some v else none)
structure Made (h h' : Heap) (e C d : Addr) (v : Value) : Prop where
  keep : ∀ b o, h.get? b = some o → h'.get? b = some o
  new : h.objs.size ≤ e
  obj : ∃ oe vs, h'.get? e = some oe ∧ oe.cls = .ref C ∧ oe.dict = some d ∧ oe.data = .fields vs ∧ vs[1]? = some .none
  dbig : h.objs.size ≤ d
  dne : d ≠ e
  ns : h'.Ns1 d (fun y => if y = "at" then some v else none)
section
variable {prog : Program} {w : World} {A : Around} {E : Value → Shared → Prop} {R : Result → Shared → Prop} {s : Shared} {K : Frag} {mg : Str → Option Value} {x0 q0 : Str} {C fI : Addr}
theorem init_run (T : Tx K mg x0 q0 C fI) {x t0 : Addr} {v : Value} (X : K.In s.heap) (hlim : s.heap.NoLimit) (hx : s.heap.get? x = some (excO C t0)) (hnx : K.lookup x = none) (hroom : A.depth < recursionLimit)
    (hq : ∀ h' tk dx, InitEnd s.heap h' x C dx t0 v → R (.ok (.ret .none)) { s with heap := h', toks := tk }) :
    codeAny (model prog w) A (.call (.ref fI) ⟨[.ref x, v], []⟩) R s := by
  obtain ⟨oc, od, doc, pm, an, cdv, ct, osl, p1, p2, q1, q2, q3, q4, ho, hcd⟩ := T.fn
  obtain ⟨nm, q, N, bs, bm, sn, sub, ab, col, dd, k0, k1, k2, k3, k5, hC, hbm⟩ := T.cls
  have hcl : clsIn K C = some { name := nm, bases := bs, mro := .ref C :: bm, ns := N, qualname := q, hasDict := true, slotNames := sn, subclasses := sub, abstract := ab, collection := col, hasDel := false } := by unfold clsIn; rw [hC] <;> rfl
  refine Att.call_fn (binds := [("self", .ref x), ("at", v)]) X hlim ho hcd hroom (BindsTo.of_eq (by first | rfl | with_unfolding_all rfl)) (by first | rfl | decide | with_unfolding_all rfl) (fun s₁ IC => ?_) rfl rfl rfl
  obtain ⟨h₁, tk₁, rfl⟩ := IC.toInCall.same
  have k : ∀ b o, s.heap.get? b = some o → h₁.get? b = some o := IC.toInCall.keep
  have hn := IC.toInCall.ns
  have hxL : s.heap.objs.size ≠ x := Nat.ne_of_gt (Heap.lt_size hx)
  have X₁ : K.In h₁ := X.keeps k
  have hx₁ := k _ _ hx
  show wpAny _ _ (execs _ _) _ _ _
  refine wpAny_execs_cons (plainObj_wpAny_Assign_Attribute ?_)
  refine slot_ld (v := v) hn (by first | rfl | with_unfolding_all rfl | kernel_rfl) (slot_ld (v := .ref x) hn (by first | rfl | with_unfolding_all rfl | kernel_rfl) ?_)
  refine set_plain X₁ (ox := excO C t0) (od := none) ⟨hx₁, rfl, rfl, trivial⟩ T.sa ?_
  refine first_store X₁ hx₁ hcl (show exRow (.ref C :: bm) = true from hbm) rfl T.noN (fun h₃ tk₃ dx k₃ dn dne hx₃ hn₃ => ?_)
  show wpAny _ _ (execs _ _) _ _ _
  have z : s.heap.objs.size < h₁.objs.size := hn.lt
  exact wpAny_execs_nil (hq h₃ tk₃ dx ⟨fun b o hb e => k₃ b o hb (k b o e), hx₃, Nat.le_of_lt (Nat.lt_of_lt_of_le z dn), dne, hn₃⟩)
theorem made_run (T : Tx K mg x0 q0 C fI) {v : Value} (X : K.In s.heap) (hlim : s.heap.NoLimit) (hroom : A.depth + 1 < recursionLimit)
    (hq : ∀ h' tk e d, Made s.heap h' e C d v → R (.ok (.ret (.ref e))) { s with heap := h', toks := tk }) :
    codeAny (model prog w) A (.call (.ref C) ⟨[v], []⟩) R s := by
  obtain ⟨nm, q, N, bs, bm, sn, sub, ab, col, dd, k0, k1, k2, k3, k5, hC, hbm⟩ := T.cls
  obtain ⟨hp, g, dr, tk, os⟩ := s
  have k : ∀ b o, hp.get? b = some o → ((hp.push (kdv_tup [v])).push (excO C hp.objs.size)).get? b = some o := fun b o e => Heap.get?_push_of_some _ (Heap.get?_push_of_some _ e)
  have hget : ((hp.push (kdv_tup [v])).push (excO C hp.objs.size)).get? (hp.objs.size + 1) = some (excO C hp.objs.size) := by heap_get
  have hnx : K.lookup (hp.objs.size + 1) = none := by
    cases e : K.lookup (hp.objs.size + 1) with
    | none => rfl
    | some o =>
      have z : hp.get? (hp.objs.size + 1) = some o := X _ _ e
      exact absurd (Nat.lt_of_succ_lt (Heap.lt_size z)) (Nat.lt_irrefl _)
  refine call_own F.excBase_Exception (fun X => exRow_has X bm hbm) (X _ _ hC) (looks_findIn X T.iC) (fun self => bind_fn X self T.tC) (one_size v) ?_
  refine init_run (s := ⟨(hp.push (kdv_tup [v])).push (excO C hp.objs.size), g, dr, tk, os⟩) T (X.keeps k) (hlim.keeps k) hget hnx ?_ fun h' tk' dx ⟨k', hx, dn, dne, hns⟩ => ?_
  · show A.depth + 1 < recursionLimit
    exact hroom
  · have old : ∀ b o, hp.get? b = some o → h'.get? b = some o := fun b o e => k' b o (Nat.ne_of_lt (Nat.lt_succ_of_lt (Heap.lt_size e))) (k b o e)
    have z : hp.objs.size + 1 + 1 ≤ dx := by
      first
        | (simpa only [Heap.size_push] using dn)
        | exact dn
        | (have q := dn; rw [Heap.size_push, Heap.size_push] at q; exact q)
    exact ⟨rfl, hq h' tk' (hp.objs.size + 1) dx ⟨old, Nat.le_succ _, ⟨_, _, hx, rfl, rfl, rfl, rfl⟩, Nat.le_trans (Nat.le_trans (Nat.le_succ _) (Nat.le_succ _)) z, dne, hns⟩⟩
end
end Eat
end Bx
namespace Bx
namespace Eat
open PySem PySem.Spec PyProof.Rows L2
theorem rel_at {v : V} {v' : Value} (r : RelV v v') (f : Str) : RelO (List.lookup f [(("at" : Str), v)]) (if f = "at" then some v' else none) := by
  by_cases hw : f = "at"
  · subst hw
    rw [if_pos rfl]
    have q : List.lookup ("at" : Str) [(("at" : Str), v)] = some v := by simp [List.lookup]
    rw [q]
    exact r
  · rw [if_neg hw]
    have qw : (f == ("at" : Str)) = false := by simpa using hw
    have q2 : List.lookup f [(("at" : Str), v)] = none := by simp [List.lookup, qw]
    rw [q2]
    trivial
section
variable {X : Cx} {C fI : Addr} {x0 q0 : Str}
/-- x0(e), an error with the field -/
def tMk (C : Addr) (ta : TA) : L2.St → Hp → XK → Prop := fun σ H Q => ta σ H fun vs H1 => ∃ v, vs = [v] ∧ ∀ d, H1 d = none → Q (.ref C) (some d) (upd H1 d (.xd [(("at" : Str), v)]))
theorem pmk {a : Expr} {ta : TA} {p pos : Pos} {k : Nat} (T : Tx X.K X.mg x0 q0 C fI) (hr : Room k X.A) (ha : PA X [a] ta) (hg : Gl X x0) (hdb : (x0 == ("__debug__" : Str)) = false := by decide)
    (he : starEach (a :: []) X.env = (false, eval a X.env) :: starEach [] X.env := by rfl) (hpl : (backTo pos (starEach [] X.env)).any (·.1) = false := by rfl) :
    PMk X (.Call (.Name x0 p) [a] [] pos) (tMk C ta) := by
  intro pins s σ H Q I h
  refine wpAny_Call_Name_kw (ld_glob I hg T.gC ?_ hdb)
  refine PySem.W.callWith_K (h₀ := X.base) I.ok.mod.kin T.kC (thn (ha.run pos pins s σ H _ I h) fun us s1 hh => ?_) he hpl
  obtain ⟨vs, H1, I1, r1, v, ev, q1⟩ := hh
  subst ev
  refine ⟨I1.kIn, ?_⟩
  cases r1 with
  | cons rv rn =>
    rename_i v' us'
    cases rn
    show wpAny _ _ (call (.ref C) [v']) _ _ _
    have hlim := I1.nolimit
    obtain ⟨hp, g, dr, tk, os⟩ := s1
    refine wpAny_call (made_run T I1.kIn hlim (by have := hr.dp; omega) fun h' tk' e d M => ?_)
    show MkP X pins σ Q (.ref e) ⟨h', g, dr, tk', os⟩
    obtain ⟨oe, fv, hoe, hc, hd, hdat, h1⟩ := M.obj
    have hns := M.ns
    obtain ⟨G', g1, g2⟩ := restrict h' fun b => decide (b ≠ e)
    have gk : ∀ b, b ≠ e → G'.get? b = h'.get? b := fun b hb => g1 b (decide_eq_true hb)
    have ge : G'.get? e = none := g2 e (by simp)
    have old : ∀ b o, hp.get? b = some o → G'.get? b = some o := fun b o q => (gk b (Nat.ne_of_lt (Nat.lt_of_lt_of_le (Heap.lt_size q) M.new))).trans (M.keep b o q)
    have ob : ObjOk X.prog X.w (upd H1 d (.xd [(("at" : Str), v)])) G' d (.xd [(("at" : Str), v)]) :=
      ⟨_, hns.at (fun o q => (gk d M.dne).trans q), fun f => rel_at rv f⟩
    have J : Inv X pins σ (upd H1 d (.xd [(("at" : Str), v)])) ⟨G', g, dr, tk', os⟩ := I1.laid (t' := tk') old M.dbig ob
    refine ⟨e, oe, fv, ⟨G', g, dr, tk', os⟩, _, .ref C, some d, rfl, J, fun b o q => ?_, ge, hoe, ⟨hc, hd⟩, hdat, h1, ?_, rfl, I1.bare, raises_own T.exC T.tyC, q1 d (I1.hok.fresh M.dbig)⟩
    · by_cases hb : b = e
      · have q' : G'.get? b = some o := q
        rw [hb, ge] at q'; cases q'
      · exact (gk b hb).symm.trans q
    · rw [upd_ne (Ne.symm M.dne)]
      exact I1.hok.fresh M.new
/-- raise x0(e) -/
def tRaise (C : Addr) (W : WX) (ta : TA) : TS := fun _ σ H => tMk C ta σ H fun cls d H' => W cls d σ H'
theorem ps {a : Expr} {ta : TA} {W : WX} {p pos pos2 : Pos} {k : Nat} (hc : X.calm = true) (T : Tx X.K X.mg x0 q0 C fI) (hr : Room k X.A) (tk : Takes X W) (ha : PA X [a] ta) (hg : Gl X x0) (hdb : (x0 == ("__debug__" : Str)) = false := by decide)
    (he : starEach (a :: []) X.env = (false, eval a X.env) :: starEach [] X.env := by rfl) (hpl : (backTo pos (starEach [] X.env)).any (·.1) = false := by rfl) :
    PS X (.Raise (some (.Call (.Name x0 p) [a] [] pos)) none pos2) (tRaise C W ta) := ps_raise hc tk (pmk T hr ha hg hdb he hpl)
theorem x_raise {W : WX} {ta : TA} {σ : L2.St} {H : Hp} {n b c : L2.St → Hp → Prop} {r : VK} (q : ta σ H fun vs H1 => ∃ v, vs = [v] ∧ ∀ d, H1 d = none → W (.ref C) (some d) σ (upd H1 d (.xd [(("at" : Str), v)]))) : tRaise C W ta ⟨n, r, b, c⟩ σ H := q
/-- n.at, n the error that the suite holds (at a; its class cls, its dict d) -/
def tBy (C : Addr) (a : Addr) (cls : Value) (d : Option Addr) (te : TE) : TE := fun σ H Q => te σ H fun x H1 => x = .ref a ∧ cls = .ref C ∧ ∃ (dd : Addr) (v : V), d = some dd ∧ H1 dd = some (.xd [(("at" : Str), v)]) ∧ Q v H1
theorem x_by {a dd : Addr} {te : TE} {σ : L2.St} {H : Hp} {Q : VK} {v : V} (q : te σ H fun x H1 => x = .ref a ∧ H1 dd = some (.xd [(("at" : Str), v)]) ∧ Q v H1) (m : ∀ Q Q' : VK, (∀ v H, Q v H → Q' v H) → te σ H Q → te σ H Q') : tBy C a (.ref C) (some dd) te σ H Q :=
  m _ _ (fun _ _ z => ⟨z.1, rfl, dd, v, rfl, z.2.1, z.2.2⟩) q
theorem pe_by {a : Addr} {oe : Obj} {cls : Value} {d : Option Addr} {pn : List (Addr × Obj)} {e : Expr} {te : TE} {pos : Pos} (T : Tx X.K X.mg x0 q0 C fI) (hz : Zc cls d oe) (hf : ∃ vs, oe.data = .fields vs) (he : PE (X.suite a ((a, oe) :: pn)) e te)
    (hb : attributeBase e "at" X.env (eval e X.env) = eval e X.env := by rfl) :
    PE (X.suite a ((a, oe) :: pn)) (.Attribute e "at" pos) (tBy C a cls d te) := by
  refine ⟨fun pins s σ H Q I h => ?_⟩
  refine attr_of hb (thn (he.run pins s σ H _ I h) fun u s1 hh => ?_)
  obtain ⟨x, H1, I1, rx, ex, ec, dd, v, ed, ea, q⟩ := hh
  subst ex
  obtain rfl : u = Value.ref a := rx
  subst ec
  subst ed
  obtain ⟨ha, _⟩ := I1.pin (a, oe) (List.mem_append_left _ List.mem_cons_self)
  obtain ⟨vs, hd⟩ := hf
  have hx : ObjOk X.prog X.w H1 s1.heap dd (.xd [(("at" : Str), v)]) := I1.hok dd _ ea
  obtain ⟨mA, hns, hr⟩ := hx
  obtain ⟨od, ho, hl⟩ := lookIn_ns hns
  have l : List.lookup ("at" : Str) [(("at" : Str), v)] = some v := by simp [List.lookup]
  obtain ⟨u, hu, ru⟩ := RelO.some_of (v := v) (o := mA "at") (by rw [← l]; exact hr "at")
  have J : PySem.W.InstAt s1.heap a oe C (some od) := ⟨ha, hz.1, by unfold PySem.W.notCls; rw [hd] <;> rfl, by rw [hz.2]; exact ho⟩
  exact HandSPX.exc_get I1.kIn J T.ga T.gg T.exC (PySem.W.findObj_own T.hdC T.noN rfl (by rw [hl, hu])) (handed_of ru) ⟨v, H1, I1.tok _, ru, q⟩
end
end Eat
end Bx
namespace Bx
open PySem L2
/-! ### zip of two rows, each a list or a tuple -/
section
variable {prog : Program} {w : World} {A : Around} {E : Value → Shared → Prop} {s : Shared}
def RowAt (t : Bool) (h : Heap) (l : Addr) (xs : Array Value) : Prop := match t with
  | true => h.IsTuple l xs
  | false => h.IsList l xs
def ItAt (t : Bool) (h : Heap) (i l : Addr) (k : Nat) : Prop := match t with
  | true => h.IsTupleIter i l k
  | false => h.IsListIter i l k
theorem RowAt.get {t : Bool} {h : Heap} {l : Addr} {xs : Array Value} (r : RowAt t h l xs) : ∃ o, h.get? l = some o ∧ ∀ h', h'.get? l = some o → RowAt t h' l xs := by
  cases t <;> (obtain ⟨o, e, c⟩ := r; exact ⟨o, e, fun _ e' => ⟨o, e', c⟩⟩)
theorem ItAt.get {t : Bool} {h : Heap} {i l : Addr} {k : Nat} (r : ItAt t h i l k) : ∃ o, h.get? i = some o ∧ (∀ v, o.data ≠ .cell v) ∧ ∀ h', h'.get? i = some o → ItAt t h' i l k := by
  cases t <;> (obtain ⟨o, e, c, d⟩ := r; exact ⟨o, e, fun v q => (by rw [d] at q; cases q), fun _ e' => ⟨o, e', c, d⟩⟩)
theorem RowAt.to {t : Bool} {h h' : Heap} {l : Addr} {xs : Array Value} (r : RowAt t h l xs) (k : ∀ o, h.get? l = some o → h'.get? l = some o) : RowAt t h' l xs :=
  let ⟨o, e, f⟩ := r.get
  f h' (k o e)
theorem ItAt.to {t : Bool} {h h' : Heap} {i l : Addr} {n : Nat} (r : ItAt t h i l n) (k : ∀ o, h.get? i = some o → h'.get? i = some o) : ItAt t h' i l n :=
  let ⟨o, e, _, f⟩ := r.get
  f h' (k o e)
theorem nx_item {t : Bool} {i l : Addr} {k : Nat} {xs : Array Value} {x : Value} {Q : Value → Shared → Prop} (r : ItAt t s.heap i l k) (b : RowAt t s.heap l xs) (e : xs[k]? = some x)
    (q : ∀ g, ItAt t g i l (k + 1) → Heap.SameBut i s.heap g → Q x { s with heap := g }) : wpAny (model prog w) A (Builtin.SmallTypes.nextOf (.ref i)) Q E s := by
  cases t
  · exact wpAny_nextOf_list_item r b e q
  · exact RZ.nextOf_tuple_item r b e q
theorem nx_end {t : Bool} {i l : Addr} {k : Nat} {xs : Array Value} {Q : Value → Shared → Prop} (hh : A.handled = none) (r : ItAt t s.heap i l k) (b : RowAt t s.heap l xs) (e : xs[k]? = none)
    (q : ∀ g c, Heap.ExtBut i s.heap g → (∃ o, g.get? c = some o ∧ o.cls = .type "StopIteration") → E (.ref c) { s with heap := g }) : wpAny (model prog w) A (Builtin.SmallTypes.nextOf (.ref i)) Q E s := by
  cases t
  · exact wpAny_nextOf_list_end hh r b e q
  · exact RZ.nextOf_tuple_end hh r b e q
/-- zip's next row, of rows of either kind -/
theorem zx_item {t u : Bool} {zp Ti To ia ib la lb : Addr} {m n : Nat} {xs ys : Array Value} {x y p0 p1 : Value} {Q : Value → Shared → Prop} (D : ZipApart zp Ti To ia ib la lb)
    (Z : IsZip s.heap zp Ti To .none) (P : IsPair s.heap Ti (.ref ia) (.ref ib)) (O : IsPair s.heap To p0 p1)
    (ra : ItAt t s.heap ia la m) (rb : ItAt u s.heap ib lb n) (qa : RowAt t s.heap la xs) (qb : RowAt u s.heap lb ys) (ex : xs[m]? = some x) (ey : ys[n]? = some y)
    (q : ∀ g, IsZip g zp Ti To (rawInt s.heap.objs.size) → IsPair g To x y → ItAt t g ia la (m + 1) → ItAt u g ib lb (n + 1) → IsPair g s.heap.objs.size x y →
      (∀ c o, c ≠ zp → c ≠ To → c ≠ ia → c ≠ ib → s.heap.get? c = some o → g.get? c = some o) → Q (.ref s.heap.objs.size) { s with heap := g }) :
    wpAny (model prog w) A (Builtin.«zip.__next__» ⟨[.ref zp], []⟩) (fun f s' => ∃ v, f = .done (.ret v) ∧ Q v s') E s := by
  show wpAny _ _ (field (.ref zp) 2 >>= _) _ _ _
  refine wpAny_bind (wpAny_field Z rfl (x := .bool false) rfl (show wpAny _ _ (field (.ref zp) 3 >>= _) _ _ _ from wpAny_bind (wpAny_field Z rfl (x := .ref Ti) rfl (wpAny_bind (wpAny_seqItems P rfl ?_)))))
  show wpAny _ _ (Builtin.SmallTypes.ownedTupleIsFree (.ref zp) >>= _) _ _ _
  unfold Builtin.SmallTypes.ownedTupleIsFree
  refine wpAny_bind (wpAny_bind (wpAny_field Z rfl (x := .none) rfl (wpAny_pure ?_)))
  rw [if_pos rfl]
  refine wpAny_bind (wpAny_rule (wpAny_bind (wpAny_field Z rfl (x := .ref To) rfl (wpAny_bind (wpAny_setField_rec Z (by simp) fun g1 Z1 s1 => ?_)))))
  replace Z1 : IsZip g1 zp Ti To .ellipsis := Z1
  simp only [List.zipIdx_cons, List.zipIdx_nil, List.forIn_cons, List.forIn_nil]
  refine wpAny_bind (wpAny_bind (wpAny_bind (wpAny_onRaise (show wpAny _ _ (Builtin.SmallTypes.nextOf (.ref ia) >>= _) _ _ _ from ?_))))
  refine wpAny_bind (nx_item (ra.to fun o => s1.extBut _ o D.i1z) (qa.to fun o => s1.extBut _ o D.l1z) ex fun g2 ra2 s2 => wpAny_pure ?_)
  have O2 : IsPair g2 To p0 p1 := s2.extBut _ _ D.TOi1 (s1.extBut _ _ D.TOz O)
  refine wpAny_bind (wpAny_seqItems O2 rfl (wpAny_bind (wpAny_updateSeq_pair O2 fun g3 O3 s3 => wpAny_bind (wpAny_letGo (wpAny_pure ?_)))))
  replace O3 : IsPair g3 To x p1 := O3
  refine wpAny_bind (wpAny_bind (wpAny_onRaise (show wpAny _ _ (Builtin.SmallTypes.nextOf (.ref ib) >>= _) _ _ _ from ?_)))
  have k3 : ∀ c o, c ≠ zp → c ≠ To → c ≠ ia → s.heap.get? c = some o → g3.get? c = some o := fun c o n1 n2 n3 e => s3.extBut _ _ n2 (s2.extBut _ _ n3 (s1.extBut _ _ n1 e))
  refine wpAny_bind (nx_item (rb.to fun o => k3 _ o D.i2z D.TOi2.symm D.i12.symm) (qb.to fun o => k3 _ o D.l2z D.l2TO D.l2i1) ey fun g4 rb4 s4 => wpAny_pure ?_)
  have O4 : IsPair g4 To x p1 := s4.extBut _ _ D.TOi2 O3
  refine wpAny_bind (wpAny_seqItems O4 rfl (wpAny_bind (wpAny_updateSeq_pair O4 fun g5 O5 s5 => wpAny_bind (wpAny_letGo (wpAny_pure (wpAny_pure ?_))))))
  replace O5 : IsPair g5 To x y := O5
  refine wpAny_bind (wpAny_seqItems O5 rfl (wpAny_bind (wpAny_newTuple ?_)))
  have sz : g5.objs.size = s.heap.objs.size := by rw [s5.1, s4.1, s3.1, s2.1, s1.1]
  have k5 : ∀ c o, c ≠ zp → c ≠ To → c ≠ ia → c ≠ ib → s.heap.get? c = some o → g5.get? c = some o := fun c o n1 n2 n3 n4 e => s5.extBut _ _ n2 (s4.extBut _ _ n4 (k3 c o n1 n2 n3 e))
  have Z5 : IsZip g5 zp Ti To .ellipsis := s5.extBut _ _ D.TOz.symm (s4.extBut _ _ D.i2z.symm (s3.extBut _ _ D.TOz.symm (s2.extBut _ _ D.i1z.symm Z1)))
  have ra5 : ItAt t g5 ia la (m + 1) := ra2.to fun o e => s5.extBut _ _ D.TOi1.symm (s4.extBut _ _ D.i12 (s3.extBut _ _ D.TOi1.symm e))
  have rb5 : ItAt u g5 ib lb (n + 1) := rb4.to fun o => s5.extBut _ o D.TOi2.symm
  have zl : zp < g5.objs.size := Heap.lt_size Z5
  show wpAny _ _ (Builtin.SmallTypes.ownedTupleHandOut (.ref zp) (.ref g5.objs.size) >>= _) _ _ _
  unfold Builtin.SmallTypes.ownedTupleHandOut
  have Z6 : IsZip (g5.push { cls := .type "tuple", data := .seq #[x, y] }) zp Ti To .ellipsis := Heap.get?_push_of_some _ Z5
  refine wpAny_bind (wpAny_bind (wpAny_setField_rec Z6 (by simp) fun g7 Z7 s7 => ?_))
  replace Z7 : IsZip g7 zp Ti To (rawInt g5.objs.size) := Z7
  refine wpAny_setField_rec Z7 (by simp) fun g8 Z8 s8 => wpAny_pure ⟨_, rfl, ?_⟩
  replace Z8 : IsZip g8 zp Ti To (rawInt g5.objs.size) := Z8
  have k8 : ∀ c o, c ≠ zp → g5.get? c = some o → g8.get? c = some o := fun c o n1 e => s8.extBut _ _ n1 (s7.extBut _ _ n1 (Heap.get?_push_of_some _ e))
  have T8 : IsPair g8 g5.objs.size x y := s8.extBut _ _ (Nat.ne_of_gt zl) (s7.extBut _ _ (Nat.ne_of_gt zl) (Heap.get?_push_size _ rfl))
  show Q (.ref g5.objs.size) _
  rw [sz] at Z8 T8 ⊢
  exact q g8 Z8 (k8 _ _ D.TOz O5) (ra5.to fun o => k8 _ o D.i1z) (rb5.to fun o => k8 _ o D.i2z) T8 fun c o n1 n2 n3 n4 e => k8 c o n1 (k5 c o n1 n2 n3 n4 e)
/-- the end of a zip -/
theorem zx_end {t u : Bool} {zp Ti To ia ib la lb : Addr} {m n : Nat} {xs ys : Array Value} {p0 p1 : Value} {Q : Fin → Shared → Prop} (hh : A.handled = none) (D : ZipApart zp Ti To ia ib la lb)
    (Z : IsZip s.heap zp Ti To .none) (P : IsPair s.heap Ti (.ref ia) (.ref ib)) (O : IsPair s.heap To p0 p1)
    (ra : ItAt t s.heap ia la m) (rb : ItAt u s.heap ib lb n) (qa : RowAt t s.heap la xs) (qb : RowAt u s.heap lb ys) (en : xs[m]? = none ∨ ys[n]? = none)
    (q : ∀ g e, (∀ c o, c ≠ zp → c ≠ To → c ≠ ia → c ≠ ib → s.heap.get? c = some o → g.get? c = some o) → (∃ o, g.get? e = some o ∧ o.cls = .type "StopIteration") → E (.ref e) { s with heap := g }) :
    wpAny (model prog w) A (Builtin.«zip.__next__» ⟨[.ref zp], []⟩) Q E s := by
  show wpAny _ _ (field (.ref zp) 2 >>= _) _ _ _
  refine wpAny_bind (wpAny_field Z rfl (x := .bool false) rfl (show wpAny _ _ (field (.ref zp) 3 >>= _) _ _ _ from wpAny_bind (wpAny_field Z rfl (x := .ref Ti) rfl (wpAny_bind (wpAny_seqItems P rfl ?_)))))
  show wpAny _ _ (Builtin.SmallTypes.ownedTupleIsFree (.ref zp) >>= _) _ _ _
  unfold Builtin.SmallTypes.ownedTupleIsFree
  refine wpAny_bind (wpAny_bind (wpAny_field Z rfl (x := .none) rfl (wpAny_pure ?_)))
  rw [if_pos rfl]
  refine wpAny_bind (wpAny_rule (wpAny_bind (wpAny_field Z rfl (x := .ref To) rfl (wpAny_bind (wpAny_setField_rec Z (by simp) fun g1 Z1 s1 => ?_)))))
  replace Z1 : IsZip g1 zp Ti To .ellipsis := Z1
  have stop : ∀ (g : Heap) (e : Addr), IsZip g zp Ti To .ellipsis → (∀ c o, c ≠ zp → c ≠ To → c ≠ ia → c ≠ ib → s.heap.get? c = some o → g.get? c = some o) → (∃ o, g.get? e = some o ∧ o.cls = .type "StopIteration") →
      wpAny (model prog w) A (setField (.ref zp) 0 .none) (fun _ s' => E (.ref e) s') E { s with heap := g } := fun g e Zg k ⟨o, eo, co⟩ => by
    have ne : e ≠ zp := fun z => by rw [z, Zg] at eo; cases eo; simp at co
    exact wpAny_setField_rec Zg (by simp) fun g' _ s' => q g' e (fun c o n1 n2 n3 n4 h => s'.extBut _ _ n1 (k c o n1 n2 n3 n4 h)) ⟨o, s'.extBut _ _ ne eo, co⟩
  simp only [List.zipIdx_cons, List.zipIdx_nil, List.forIn_cons, List.forIn_nil]
  refine wpAny_bind (wpAny_bind (wpAny_bind (wpAny_onRaise (show wpAny _ _ (Builtin.SmallTypes.nextOf (.ref ia) >>= _) _ _ _ from ?_))))
  cases ex : xs[m]? with
  | none => exact wpAny_bind (nx_end hh (ra.to fun o => s1.extBut _ o D.i1z) (qa.to fun o => s1.extBut _ o D.l1z) ex fun g2 e s2 st => stop g2 e (s2 _ _ D.i1z.symm Z1) (fun c o n1 _ n3 _ h => s2 _ _ n3 (s1.extBut _ _ n1 h)) st)
  | some x =>
    have ey : ys[n]? = none := en.elim (fun h => by rw [ex] at h; cases h) id
    refine wpAny_bind (nx_item (ra.to fun o => s1.extBut _ o D.i1z) (qa.to fun o => s1.extBut _ o D.l1z) ex fun g2 ra2 s2 => wpAny_pure ?_)
    have O2 : IsPair g2 To p0 p1 := s2.extBut _ _ D.TOi1 (s1.extBut _ _ D.TOz O)
    refine wpAny_bind (wpAny_seqItems O2 rfl (wpAny_bind (wpAny_updateSeq_pair O2 fun g3 O3 s3 => wpAny_bind (wpAny_letGo (wpAny_pure ?_)))))
    have k3 : ∀ c o, c ≠ zp → c ≠ To → c ≠ ia → s.heap.get? c = some o → g3.get? c = some o := fun c o n1 n2 n3 e => s3.extBut _ _ n2 (s2.extBut _ _ n3 (s1.extBut _ _ n1 e))
    refine wpAny_bind (wpAny_bind (wpAny_onRaise (show wpAny _ _ (Builtin.SmallTypes.nextOf (.ref ib) >>= _) _ _ _ from ?_)))
    exact wpAny_bind (nx_end hh (rb.to fun o => k3 _ o D.i2z D.TOi2.symm D.i12.symm) (qb.to fun o => k3 _ o D.l2z D.l2TO D.l2i1) ey fun g4 e s4 st => stop g4 e (s4 _ _ D.i2z.symm (s3.extBut _ _ D.TOz.symm (s2.extBut _ _ D.i1z.symm Z1))) (fun c o n1 n2 n3 n4 h => s4 _ _ n4 (k3 c o n1 n2 n3 h)) st)
theorem zx_next {t u : Bool} {zp Ti To ia ib la lb : Addr} {m n : Nat} {xs ys : Array Value} {x y p0 p1 : Value} {Q : Option Value → Shared → Prop} (D : ZipApart zp Ti To ia ib la lb)
    (Z : IsZip s.heap zp Ti To .none) (P : IsPair s.heap Ti (.ref ia) (.ref ib)) (O : IsPair s.heap To p0 p1)
    (ra : ItAt t s.heap ia la m) (rb : ItAt u s.heap ib lb n) (qa : RowAt t s.heap la xs) (qb : RowAt u s.heap lb ys) (ex : xs[m]? = some x) (ey : ys[n]? = some y)
    (q : ∀ g, IsZip g zp Ti To (rawInt s.heap.objs.size) → IsPair g To x y → ItAt t g ia la (m + 1) → ItAt u g ib lb (n + 1) → IsPair g s.heap.objs.size x y →
      (∀ c o, c ≠ zp → c ≠ To → c ≠ ia → c ≠ ib → s.heap.get? c = some o → g.get? c = some o) → Q (some (.ref s.heap.objs.size)) { s with heap := g }) : wpAny (model prog w) A (pyNext (.ref zp)) Q E s := by
  have T : s.TypeIs (.ref zp) "zip" := ⟨_, Z, rfl⟩
  unfold pyNext
  refine wpAny_bind (wpAny_attempt (wpAny_callSpecial?_slot (name := Str.ofString "__next__") T F.slot_zip_next (wpAny_call_entry F.slot_zip_next T F.entry_zip_next ?_ (F.args_zip_next_1 _))))
  exact zx_item D Z P O ra rb qa qb ex ey fun g a b c d e f => wpAny_pure (q g a b c d e f)
theorem zx_stop {t u : Bool} {zp Ti To ia ib la lb : Addr} {m n : Nat} {xs ys : Array Value} {p0 p1 : Value} {Q : Option Value → Shared → Prop} (hh : A.handled = none) (D : ZipApart zp Ti To ia ib la lb)
    (Z : IsZip s.heap zp Ti To .none) (P : IsPair s.heap Ti (.ref ia) (.ref ib)) (O : IsPair s.heap To p0 p1)
    (ra : ItAt t s.heap ia la m) (rb : ItAt u s.heap ib lb n) (qa : RowAt t s.heap la xs) (qb : RowAt u s.heap lb ys) (en : xs[m]? = none ∨ ys[n]? = none)
    (q : ∀ g, (∀ c o, c ≠ zp → c ≠ To → c ≠ ia → c ≠ ib → s.heap.get? c = some o → g.get? c = some o) → Q none { s with heap := g }) : wpAny (model prog w) A (pyNext (.ref zp)) Q E s := by
  have T : s.TypeIs (.ref zp) "zip" := ⟨_, Z, rfl⟩
  unfold pyNext
  refine wpAny_bind (wpAny_attempt (wpAny_callSpecial?_slot (name := Str.ofString "__next__") T F.slot_zip_next (wpAny_call_entry F.slot_zip_next T F.entry_zip_next ?_ (F.args_zip_next_1 _))))
  refine zx_end hh D Z P O ra rb qa qb en fun g e k ⟨o, eo, co⟩ => ?_
  exact wpAny_bind (wpAny_isInstance (T := "StopIteration") (b := true) ⟨o, eo, co⟩ isSubtype_stop (wpAny_pure (q _ k)))
/-! making one -/
abbrev zg1 (c : String) (h : Heap) (l : Addr) : Heap := h.push { cls := .type c, data := .fields #[.ref l, .int 0 0] }
abbrev zg3 (c d : String) (h : Heap) (l k : Addr) : Heap := (zg1 d (zg1 c h l) k).push { cls := .type "tuple", data := .seq #[.ref h.objs.size, .ref (zg1 c h l).objs.size] }
abbrev zg4 (c d : String) (h : Heap) (l k : Addr) : Heap := (zg3 c d h l k).push { cls := .type "tuple", data := .seq #[.none, .none] }
abbrev zg5 (c d : String) (h : Heap) (l k : Addr) : Heap :=
  (zg4 c d h l k).push { cls := .type "zip", data := .fields #[.none, .bool false, .bool false, .ref (zg1 d (zg1 c h l) k).objs.size, .ref (zg3 c d h l k).objs.size] }
def itc : Bool → String
  | true => "tuple_iterator"
  | false => "list_iterator"
def ZNew (t u : Bool) (l k : Addr) (xs ys : Array Value) : Prop := Meets (Builtin.«zip.__new__» ⟨[.type "zip", .ref l, .ref k], []⟩)
    (fun _ R s => RowAt t s.heap l xs ∧ RowAt u s.heap k ys ∧ R (.ok (.ret (.ref (zg4 (itc t) (itc u) s.heap l k).objs.size))) { s with heap := zg5 (itc t) (itc u) s.heap l k })
theorem zn_ff (l k : Addr) (xs ys : Array Value) : Meets (Builtin.«zip.__new__» ⟨[.type "zip", .ref l, .ref k], []⟩)
    (fun _ R s => s.heap.IsList l xs ∧ s.heap.IsList k ys ∧ R (.ok (.ret (.ref (zg4 "list_iterator" "list_iterator" s.heap l k).objs.size))) { s with heap := zg5 "list_iterator" "list_iterator" s.heap l k }) := meets_zip_new l k xs ys
theorem zn_ft (l k : Addr) (xs ys : Array Value) : Meets (Builtin.«zip.__new__» ⟨[.type "zip", .ref l, .ref k], []⟩)
    (fun _ R s => s.heap.IsList l xs ∧ s.heap.IsTuple k ys ∧ R (.ok (.ret (.ref (zg4 "list_iterator" "tuple_iterator" s.heap l k).objs.size))) { s with heap := zg5 "list_iterator" "tuple_iterator" s.heap l k }) :=
  .of_wp fun prog w A R s h => by
    obtain ⟨hp, a1, a2, a3, a4⟩ := s
    obtain ⟨ra, rb, h⟩ := h
    have sub := sub_zip
    have L1 : Heap.IsList (Shared.heap ⟨hp, a1, a2, a3, a4⟩) l xs := ra
    have L2 : Heap.IsTuple (Shared.heap ⟨hp.push { cls := .type "list_iterator", data := .fields #[.ref l, .int 0 0] }, a1, a2, a3, a4⟩) k ys := Heap.IsTuple.push rb _
    wp_walk using wpAny_pyIter_list L1, wpAny_pyIter_tuple L2
    exact ⟨_, rfl, h⟩
theorem zn_tf (l k : Addr) (xs ys : Array Value) : Meets (Builtin.«zip.__new__» ⟨[.type "zip", .ref l, .ref k], []⟩)
    (fun _ R s => s.heap.IsTuple l xs ∧ s.heap.IsList k ys ∧ R (.ok (.ret (.ref (zg4 "tuple_iterator" "list_iterator" s.heap l k).objs.size))) { s with heap := zg5 "tuple_iterator" "list_iterator" s.heap l k }) :=
  .of_wp fun prog w A R s h => by
    obtain ⟨hp, a1, a2, a3, a4⟩ := s
    obtain ⟨ra, rb, h⟩ := h
    have sub := sub_zip
    have L1 : Heap.IsTuple (Shared.heap ⟨hp, a1, a2, a3, a4⟩) l xs := ra
    have L2 : Heap.IsList (Shared.heap ⟨hp.push { cls := .type "tuple_iterator", data := .fields #[.ref l, .int 0 0] }, a1, a2, a3, a4⟩) k ys := Heap.IsList.push rb _
    wp_walk using wpAny_pyIter_tuple L1, wpAny_pyIter_list L2
    exact ⟨_, rfl, h⟩
theorem zn_tt (l k : Addr) (xs ys : Array Value) : Meets (Builtin.«zip.__new__» ⟨[.type "zip", .ref l, .ref k], []⟩)
    (fun _ R s => s.heap.IsTuple l xs ∧ s.heap.IsTuple k ys ∧ R (.ok (.ret (.ref (zg4 "tuple_iterator" "tuple_iterator" s.heap l k).objs.size))) { s with heap := zg5 "tuple_iterator" "tuple_iterator" s.heap l k }) := RZ.meets_zipT_new l k xs ys
theorem zx_new (t u : Bool) (l k : Addr) (xs ys : Array Value) : ZNew t u l k xs ys := by
  cases t <;> cases u
  · exact zn_ff l k xs ys
  · exact zn_ft l k xs ys
  · exact zn_tf l k xs ys
  · exact zn_tt l k xs ys
theorem itAt_new {t : Bool} {h : Heap} {a l : Addr} (e : h.get? a = some { cls := .type (itc t), data := .fields #[.ref l, .int 0 0] }) : ItAt t h a l 0 := by
  cases t <;> exact ⟨_, e, rfl, rfl⟩
theorem zx_call {t u : Bool} {l k : Addr} {xs ys : Array Value} {Q : Value → Shared → Prop} (ra : RowAt t s.heap l xs) (rb : RowAt u s.heap k ys)
    (q : ∀ g, IsZip g (s.heap.objs.size + 4) (s.heap.objs.size + 2) (s.heap.objs.size + 3) .none → IsPair g (s.heap.objs.size + 2) (.ref s.heap.objs.size) (.ref (s.heap.objs.size + 1)) →
      IsPair g (s.heap.objs.size + 3) .none .none → ItAt t g s.heap.objs.size l 0 → ItAt u g (s.heap.objs.size + 1) k 0 →
      (∀ c o, s.heap.get? c = some o → g.get? c = some o) → Q (.ref (s.heap.objs.size + 4)) { s with heap := g }) : wpAny (model prog w) A (call (.type "zip") [.ref l, .ref k]) Q E s := by
  refine callType_new F.called_zip (by decide) (F.typeCall_zip_2 _ _) (F.newCall_zip_2 _ _) (fun obj => F.args_object_init_3 obj _ _) F.entry_zip_new (zx_new t u l k xs ys) ⟨ra, rb, ?_⟩
  have n1 : (zg1 (itc t) s.heap l).objs.size = s.heap.objs.size + 1 := Heap.size_push ..
  have n2 : (zg1 (itc u) (zg1 (itc t) s.heap l) k).objs.size = s.heap.objs.size + 2 := (Heap.size_push ..).trans (by rw [n1])
  have n3 : (zg3 (itc t) (itc u) s.heap l k).objs.size = s.heap.objs.size + 3 := (Heap.size_push ..).trans (by rw [n2])
  have n4 : (zg4 (itc t) (itc u) s.heap l k).objs.size = s.heap.objs.size + 4 := (Heap.size_push ..).trans (by rw [n3])
  have up : ∀ {h : Heap} {c : Addr} {o o' : Obj}, h.get? c = some o → (h.push o').get? c = some o := fun e => Heap.get?_push_of_some _ e
  have e5 : IsZip (zg5 (itc t) (itc u) s.heap l k) (zg4 (itc t) (itc u) s.heap l k).objs.size (zg1 (itc u) (zg1 (itc t) s.heap l) k).objs.size (zg3 (itc t) (itc u) s.heap l k).objs.size .none := Heap.get?_push_size _ rfl
  have e4 : (zg5 (itc t) (itc u) s.heap l k).get? (zg3 (itc t) (itc u) s.heap l k).objs.size = some _ := up (Heap.get?_push_size _ rfl)
  have e3 : (zg5 (itc t) (itc u) s.heap l k).get? (zg1 (itc u) (zg1 (itc t) s.heap l) k).objs.size = some _ := up (up (Heap.get?_push_size _ rfl))
  have e2 : (zg5 (itc t) (itc u) s.heap l k).get? (zg1 (itc t) s.heap l).objs.size = some _ := up (up (up (Heap.get?_push_size _ rfl)))
  have e1 : (zg5 (itc t) (itc u) s.heap l k).get? s.heap.objs.size = some _ := up (up (up (up (Heap.get?_push_size _ rfl))))
  show _ ∧ _
  rw [n2, n3, n4] at e5
  rw [n3] at e4
  rw [n1, n2] at e3
  rw [n1] at e2
  rw [n4]
  exact ⟨⟨_, e5, rfl⟩, q _ e5 e3 e4 (itAt_new e1) (itAt_new e2) fun c o e => up (up (up (up (up e))))⟩
end
/-! as something walked -/
def SqB (K : PySem.W.Frag) (t : Bool) (H : Hp) (a : Addr) (xs : List V) : Prop := match t with
  | true => SqT K H a xs
  | false => SqL K H a xs
theorem SqB.to {X : Cx} {pins : List (Addr × Obj)} {σ : L2.St} {H : Hp} {s : Shared} {t : Bool} {a : Addr} {xs : List V} (q : SqB X.K t H a xs) (I : Inv X pins σ H s) : ∃ its : List Value, Vals xs its ∧ RowAt t s.heap a its.toArray := by
  cases t
  · obtain ⟨its, r, p, _⟩ := I.list q
    exact ⟨its, r, p.isList⟩
  · obtain ⟨its, r, p, _⟩ := I.tuple q
    exact ⟨its, r, p⟩
theorem SqB.inj {X : Cx} {pins : List (Addr × Obj)} {σ : L2.St} {H : Hp} {s : Shared} {t : Bool} {a : Addr} {xs ys : List V} (q : SqB X.K t H a xs) (q' : SqB X.K t H a ys) (I : Inv X pins σ H s) : xs = ys := by
  cases t
  · exact I.list_inj q q'
  · exact I.tuple_inj q q'
def Itz2 (K : PySem.W.Frag) (t u : Bool) (a b : Addr) : It where
  go := fun i H => ∃ (xs ys : List V) (x y : V), SqB K t H a xs ∧ SqB K u H b ys ∧ xs[i]? = some x ∧ ys[i]? = some y
  yld := fun i H v H' => ∃ T x y, v = .ref T ∧ H T = none ∧ H' = upd H T (.tup [x, y]) ∧ (∀ xs, SqB K t H a xs → xs[i]? = some x) ∧ ∀ ys, SqB K u H b ys → ys[i]? = some y
  stop := fun i H => ∃ xs ys : List V, SqB K t H a xs ∧ SqB K u H b ys ∧ (xs.length ≤ i ∨ ys.length ≤ i)
def zTn (t u : Bool) (a b zp Ti To ia ib : Addr) (i : Nat) (h : Heap) : Prop := IsZip h zp Ti To .none ∧ IsPair h Ti (.ref ia) (.ref ib) ∧ (∃ x y, IsPair h To x y) ∧ ItAt t h ia a i ∧ ItAt u h ib b i
theorem mem5 {c zp Ti To ia ib : Addr} (h : c ∈ [zp, Ti, To, ia, ib]) : c = zp ∨ c = Ti ∨ c = To ∨ c = ia ∨ c = ib := by simpa using h
theorem turn_zx {P : Program} {w : World} {K : PySem.W.Frag} {elts : List Expr} {kk : Nat} {tpos : Pos} {t u : Bool} {a b zp Ti To ia ib : Addr} (D : ZipApart zp Ti To ia ib a b) :
    Turn P w K (.Tuple elts kk tpos) (Itz2 K t u a b) [zp, Ti, To, ia, ib] zp (zTn t u a b zp Ti To ia ib) where
  mem := by simp
  obj := fun i h ⟨Z, P, ⟨x, y, O⟩, ra, rb⟩ c hc => by
    obtain ⟨oa, ea, da, _⟩ := ra.get
    obtain ⟨ob, eb, db, _⟩ := rb.get
    rcases mem5 hc with q | q | q | q | q <;> rw [q]
    · exact ⟨_, Z, fun _ z => nomatch z⟩
    · exact ⟨_, P, fun _ z => nomatch z⟩
    · exact ⟨_, O, fun _ z => nomatch z⟩
    · exact ⟨oa, ea, da⟩
    · exact ⟨ob, eb, db⟩
  keep := fun i h h' ⟨Z, P, ⟨x, y, O⟩, ra, rb⟩ k => ⟨k zp (by simp) _ Z, k Ti (by simp) _ P, ⟨x, y, k To (by simp) _ O⟩, ra.to fun o e => k ia (by simp) o e, rb.to fun o e => k ib (by simp) o e⟩
  item := by
    intro X hP hw hK hc i pins s σ H E I hf ⟨Z, P, ⟨x0, y0, O⟩, ra, rb⟩ ⟨xs, ys, x, y, qa, qb, ex, ey⟩
    subst hP hw hK
    obtain ⟨its, rv, pa⟩ := qa.to I
    obtain ⟨its', rv', pb⟩ := qb.to I
    obtain ⟨v, ev, rx⟩ := rv.get ex
    obtain ⟨v', ev', ry⟩ := rv'.get ey
    have zl := Heap.lt_size Z
    refine zx_next D Z P O ra rb pa pb (x := v) (y := v') (by simpa using ev) (by simpa using ev') fun g Z' O' ra' rb' T' k => ?_
    refine ⟨_, rfl, wpAny_letOwnedTupleGo_zip (s := { s with heap := g }) Z' fun g' Z'' sb => ?_⟩
    have T2 : g'.get? s.heap.objs.size = some { cls := .type "tuple", data := .seq #[v, v'] } := (sb.2 _ (Nat.ne_of_gt zl)).trans T'
    have new : ObjOk X.prog X.w (upd H s.heap.objs.size (.tup [x, y])) g' s.heap.objs.size (.tup [x, y]) := ⟨(by decide : 2 ≤ sizeLine), [v, v'], .cons rx (.cons ry .nil), ⟨_, T2, rfl, _, rfl⟩⟩
    have kk : ∀ c o, c ∉ [zp, Ti, To, ia, ib] → s.heap.get? c = some o → g'.get? c = some o := fun c o nc e => by
      have n : ∀ d ∈ [zp, Ti, To, ia, ib], c ≠ d := fun d hd z => nc (z ▸ hd)
      exact (sb.2 c (n zp (by simp))).trans (k c o (n zp (by simp)) (n To (by simp)) (n ia (by simp)) (n ib (by simp)) e)
    have I1 : Inv X pins σ (upd H s.heap.objs.size (.tup [x, y])) { s with heap := g' } := I.turnedNew (t' := s.toks) (ch := [zp, Ti, To, ia, ib]) kk hf (Nat.le_refl _) new
    refine ⟨.ref s.heap.objs.size, _, I1, rfl, ⟨_, x, y, rfl, I.hok.fresh (Nat.le_refl _), rfl, fun l hl => ?_, fun l hl => ?_⟩, ⟨Z'', ?_, ⟨v, v', ?_⟩, ?_, ?_⟩, fun c hcm => ?_⟩
    · rw [hl.inj qa I]; exact ex
    · rw [hl.inj qb I]; exact ey
    · exact (sb.2 _ D.TIz).trans (k _ _ D.TIz D.TITO D.TIi1 D.TIi2 P)
    · exact (sb.2 _ D.TOz).trans O'
    · exact ra'.to fun o e => (sb.2 _ D.i1z).trans e
    · exact rb'.to fun o e => (sb.2 _ D.i2z).trans e
    · have hlt : c < s.heap.objs.size := by
        obtain ⟨oa, ea, _⟩ := ra.get
        obtain ⟨ob, eb, _⟩ := rb.get
        rcases mem5 hcm with q | q | q | q | q <;> rw [q]
        · exact zl
        · exact Heap.lt_size P
        · exact Heap.lt_size O
        · exact Heap.lt_size ea
        · exact Heap.lt_size eb
      rw [upd_ne (Nat.ne_of_lt hlt)]
      exact (hf c hcm).1
  done := by
    intro X hP hw hK hc i pins s σ H E I hf ⟨Z, P, ⟨x0, y0, O⟩, ra, rb⟩ ⟨xs, ys, qa, qb, en⟩
    subst hP hw hK
    obtain ⟨its, rv, pa⟩ := qa.to I
    obtain ⟨its', rv', pb⟩ := qb.to I
    have l1 := rv.length
    have l2 := rv'.length
    refine zx_stop (I.ok.hd hc) D Z P O ra rb pa pb (en.imp (fun q => by simp; omega) fun q => by simp; omega) fun g k => ⟨rfl, I.turnedL (t' := s.toks) (ch := [zp, Ti, To, ia, ib]) (fun c o nc e => ?_) hf⟩
    have n : ∀ d ∈ [zp, Ti, To, ia, ib], c ≠ d := fun d hd z => nc (z ▸ hd)
    exact k c o (n zp (by simp)) (n To (by simp)) (n ia (by simp)) (n ib (by simp)) e
  self := fun A i s Q E st h => wpAny_pyIter_zip st.1 h
/-- zip(a, b) walked -/
def iZx (K : PySem.W.Frag) (ta : TA) : TI := fun σ H R => ta σ H fun vs H1 => ∃ a b xs ys t u, vs = [.ref a, .ref b] ∧ SqB K t H1 a xs ∧ SqB K u H1 b ys ∧ R (Itz2 K t u a b) H1
theorem pi_zx {X : Cx} {e e2 : Expr} {ta : TA} {p pos tpos : Pos} {elts : List Expr} {kk : Nat} (hg : Gl X "zip") (hm : X.mg "zip" = none) (ha : PA X [e, e2] ta)
    (hs : starEach [e, e2] X.env = (false, eval e X.env) :: starEach [e2] X.env := by rfl) (hpl : (backTo pos (starEach [e2] X.env)).any (·.1) = false := by rfl) :
    PI X (.Tuple elts kk tpos) (.Call (.Name "zip" p) [e, e2] [] pos) (iZx X.K ta) := by
  refine ⟨fun pins s σ H R I h => PyProof.Rows.Call_ (ld_blt I hg hm PyProof.Rows.boot_zip (PyProof.Rows.callWith_type1 (thn (ha.run pos pins s σ H _ I h) fun us s1 ⟨vs, H1, I1, r1, q1⟩ => ?_) hs hpl))⟩
  obtain ⟨a, b, xs, ys, t, u, rfl, qa, qb, q⟩ := q1
  cases r1 with
  | cons r rr =>
    cases rr with
    | cons r' rr =>
      cases rr
      cases r
      cases r'
      obtain ⟨its, rv, pa⟩ := qa.to I1
      obtain ⟨its', rv', pb⟩ := qb.to I1
      obtain ⟨oa, ea, _⟩ := pa.get
      obtain ⟨ob, eb, _⟩ := pb.get
      refine zx_call pa pb fun g Z P O ra rb k => wpAny_pyIter_zip Z ?_
      refine ⟨_, _, _, _, H1, rfl, I1.kept (t' := s1.toks) k, turn_zx (PySem.W.ktu_apart s1.heap.objs.size a b (Heap.lt_size ea) (Heap.lt_size eb)), ⟨Z, P, ⟨_, _, O⟩, ra, rb⟩, fun c hcm => ?_, q⟩
      have le : s1.heap.objs.size ≤ c := by
        rcases mem5 hcm with z | z | z | z | z <;> rw [z] <;> omega
      exact I1.fpOk le (I1.hok.fresh le)
end Bx
namespace Bx
open PySem L2
section
variable {H : Hp} {Q : VK} {K : PySem.W.Frag} {v u : V} {ex : List Addr} {d d1 d2 : Da} {ds es fs : List Da} {σ : L2.St} {vs : List Nat} {g : TG} {tt : TT} {tx : TE} {m : Nat}
/-- a comprehension that makes a row of data, over anything walked; Iv, what else is known -/
theorem raw_map {J : It} {eo : List Addr} (Iv : Hp → Prop) (sub : ∀ a, a ∈ ex → a ∈ eo) (hf : fs.length = m) (hm : m < 100000) (I0 : Iv H) (hL : ∀ H', Iv H' → Live eo H') (hI : ∀ H' D o, H D = none → Iv H' → Iv (upd H' D o))
    (hstop : ∀ H', Kp ex H H' → J.stop m H') (hgo : ∀ i H', i < m → Kp ex H H' → J.go i H')
    (hs : ∀ D (i : Nat) x f H1 H' (N : V → Hp → Prop) (Nx : Hp → Prop), H D = none → i < m → fs[i]? = some f → Kp ex H H1 → Live (D :: eo) H1 → Iv H1 → J.yld i H1 x H' → (∀ y H4, Kp ex H1 H4 → Iv H4 → Rp (D :: eo) H4 y f → N y H4) →
      g x (wipe σ vs) H' fun σ2 H2 => wipe σ2 vs = wipe σ vs ∧ tt σ2 H2 fun b H3 => if b = true then tx σ2 H3 N else Nx H3)
    (hd : ∀ v' H', Kp ex H H' → Iv H' → Rp eo H' v' (.lst fs) → Q v' H') : rawC J g tt tx vs σ H Q := by
  intro D hD
  have nD : D ∉ eo := (hL H I0).new hD
  have nE : D ∉ ex := fun z => nD (sub _ z)
  refine ⟨fun i k H' => k = m - i ∧ i ≤ m ∧ Kp ex H H' ∧ Iv H' ∧ ∃ ys, H' D = some (.lst ys) ∧ Rps (D :: eo) H' ys (fs.take i), ⟨m, rfl, Nat.zero_le _, Kp.refl.new hD, hI _ _ _ hD I0, [], upd_same, by rw [List.take_zero]; exact Rps.nil⟩, ?_⟩
  rintro i k H' ⟨rfl, hi, kp, iv, ys, ey, ry⟩
  by_cases c : i < m
  · refine .inr ⟨hgo i H' c kp, fun H4 => i + 1 ≤ m ∧ Kp ex H H4 ∧ Iv H4 ∧ ∃ ys, H4 D = some (.lst ys) ∧ Rps (D :: eo) H4 ys (fs.take (i + 1)), fun H4 q => ⟨m - (i + 1), by omega, rfl, q⟩, fun x H1 y => ?_⟩
    have gi : fs[i]? = some (fs[i]'(by omega)) := List.getElem?_eq_getElem _
    refine hs D i x _ H' H1 _ _ hD c gi kp ((hL _ iv).cons ey) iv y fun z H4 k4 iv4 r4 => ⟨ys, k4 _ _ nE ey, szl ?_, c, (kp.trans k4).own hD, hI _ _ _ hD iv4, ys ++ [z], upd_same, ?_⟩
    · rw [ry.1, List.length_take]; omega
    · have e : fs.take (i + 1) = fs.take i ++ [fs[i]'(by omega)] := by rw [List.take_succ, gi]; rfl
      rw [e]
      exact rps_snoc (rps_kp ry (((k4.mono sub).more).mut (List.mem_cons_self ..))) (r4.kp (Kp.refl.mut (List.mem_cons_self ..)))
  · have e : i = m := by omega
    subst e
    rw [List.take_of_length_le (by omega)] at ry
    exact .inl ⟨hstop H' kp, hd (.ref D) H' kp iv (rps_lst (rps_tail ry) nD ey)⟩
/-- over a row -/
theorem x_mapS (Iv : Hp → Prop) (h : Rp ex H v d) (s : d.seq ds) (hf : fs.length = ds.length) (hm : ds.length < 100000) (I0 : Iv H) (hL : ∀ H', Iv H' → Live ex H') (hI : ∀ H' D o, H D = none → Iv H' → Iv (upd H' D o))
    (hs : ∀ D (i : Nat) x e f H1 (N : V → Hp → Prop) (Nx : Hp → Prop), H D = none → ds[i]? = some e → fs[i]? = some f → Kp ex H H1 → Live (D :: ex) H1 → Iv H1 → Rp (D :: ex) H1 x e → (∀ y H4, Kp ex H1 H4 → Iv H4 → Rp (D :: ex) H4 y f → N y H4) →
      g x (wipe σ vs) H1 fun σ2 H2 => wipe σ2 vs = wipe σ vs ∧ tt σ2 H2 fun b H3 => if b = true then tx σ2 H3 N else Nx H3)
    (hd : ∀ v' H', Kp ex H H' → Iv H' → Rp ex H' v' (.lst fs) → Q v' H') :
    ∃ a', v = .ref a' ∧ (((∃ xs, SqL K H a' xs) ∧ rawC (Itl K a') g tt tx vs σ H Q) ∨ ((∃ xs, SqT K H a' xs) ∧ rawC (Itt K a') g tt tx vs σ H Q)) := by
  obtain ⟨a, xs, rfl, n, e, r⟩ := h.seqI s
  rcases e with e | e
  · refine ⟨a, rfl, .inr ⟨⟨xs, SqT.of e⟩, raw_map Iv (fun _ z => z) hf hm I0 hL hI (fun H' kp => ⟨xs, SqT.of (kp _ _ n e), by rw [r.1]; exact Nat.le_refl _⟩) (fun i H' c kp => ⟨xs, xs[i]'(by rw [r.1]; exact c), SqT.of (kp _ _ n e), List.getElem?_eq_getElem _⟩) (fun D i x f H1 H' N Nx hD c ef kp L iv y hN => ?_) hd⟩⟩
    obtain ⟨rfl, hx⟩ := y
    obtain ⟨e', ee, re⟩ := rps_at r (hx xs (SqT.of (kp _ _ n e)))
    exact hs D i x e' f _ N Nx hD ee ef kp L iv ((re.grow hD).kp kp.more) hN
  · refine ⟨a, rfl, .inl ⟨⟨xs, SqL.of e⟩, raw_map Iv (fun _ z => z) hf hm I0 hL hI (fun H' kp => ⟨xs, SqL.of (kp _ _ n e), by rw [r.1]; exact Nat.le_refl _⟩) (fun i H' c kp => ⟨xs, xs[i]'(by rw [r.1]; exact c), SqL.of (kp _ _ n e), List.getElem?_eq_getElem _⟩) (fun D i x f H1 H' N Nx hD c ef kp L iv y hN => ?_) hd⟩⟩
    obtain ⟨rfl, hx⟩ := y
    obtain ⟨e', ee, re⟩ := rps_at r (hx xs (SqL.of (kp _ _ n e)))
    exact hs D i x e' f _ N Nx hD ee ef kp L iv ((re.grow hD).kp kp.more) hN
/-- over a row; what is made keeps off eo -/
theorem x_mapO {eo : List Addr} (Iv : Hp → Prop) (sub : ∀ a, a ∈ ex → a ∈ eo) (h : Rp ex H v d) (s : d.seq ds) (hf : fs.length = ds.length) (hm : ds.length < 100000) (I0 : Iv H) (hL : ∀ H', Iv H' → Live eo H') (hI : ∀ H' D o, H D = none → Iv H' → Iv (upd H' D o))
    (hs : ∀ D (i : Nat) x e f H1 (N : V → Hp → Prop) (Nx : Hp → Prop), H D = none → ds[i]? = some e → fs[i]? = some f → Kp ex H H1 → Live (D :: eo) H1 → Iv H1 → Rp ex H1 x e → (∀ y H4, Kp ex H1 H4 → Iv H4 → Rp (D :: eo) H4 y f → N y H4) →
      g x (wipe σ vs) H1 fun σ2 H2 => wipe σ2 vs = wipe σ vs ∧ tt σ2 H2 fun b H3 => if b = true then tx σ2 H3 N else Nx H3)
    (hd : ∀ v' H', Kp ex H H' → Iv H' → Rp eo H' v' (.lst fs) → Q v' H') :
    ∃ a', v = .ref a' ∧ (((∃ xs, SqL K H a' xs) ∧ rawC (Itl K a') g tt tx vs σ H Q) ∨ ((∃ xs, SqT K H a' xs) ∧ rawC (Itt K a') g tt tx vs σ H Q)) := by
  obtain ⟨a, xs, rfl, n, e, r⟩ := h.seqI s
  rcases e with e | e
  · refine ⟨a, rfl, .inr ⟨⟨xs, SqT.of e⟩, raw_map Iv sub hf hm I0 hL hI (fun H' kp => ⟨xs, SqT.of (kp _ _ n e), by rw [r.1]; exact Nat.le_refl _⟩) (fun i H' c kp => ⟨xs, xs[i]'(by rw [r.1]; exact c), SqT.of (kp _ _ n e), List.getElem?_eq_getElem _⟩) (fun D i x f H1 H' N Nx hD c ef kp L iv y hN => ?_) hd⟩⟩
    obtain ⟨rfl, hx⟩ := y
    obtain ⟨e', ee, re⟩ := rps_at r (hx xs (SqT.of (kp _ _ n e)))
    exact hs D i x e' f _ N Nx hD ee ef kp L iv (re.kp kp) hN
  · refine ⟨a, rfl, .inl ⟨⟨xs, SqL.of e⟩, raw_map Iv sub hf hm I0 hL hI (fun H' kp => ⟨xs, SqL.of (kp _ _ n e), by rw [r.1]; exact Nat.le_refl _⟩) (fun i H' c kp => ⟨xs, xs[i]'(by rw [r.1]; exact c), SqL.of (kp _ _ n e), List.getElem?_eq_getElem _⟩) (fun D i x f H1 H' N Nx hD c ef kp L iv y hN => ?_) hd⟩⟩
    obtain ⟨rfl, hx⟩ := y
    obtain ⟨e', ee, re⟩ := rps_at r (hx xs (SqL.of (kp _ _ n e)))
    exact hs D i x e' f _ N Nx hD ee ef kp L iv (re.kp kp) hN
/-- a comprehension whose items are not told one by one -/
theorem raw_mapE {J : It} {eo : List Addr} (Iv : Hp → Prop) (sub : ∀ a, a ∈ ex → a ∈ eo) (G : Nat → Da → Prop) (hm : m < 100000) (I0 : Iv H) (hL : ∀ H', Iv H' → Live eo H') (hI : ∀ H' D o, H D = none → Iv H' → Iv (upd H' D o))
    (hstop : ∀ H', Kp ex H H' → J.stop m H') (hgo : ∀ i H', i < m → Kp ex H H' → J.go i H')
    (hs : ∀ D (i : Nat) x H1 H' (N : V → Hp → Prop) (Nx : Hp → Prop), H D = none → i < m → Kp ex H H1 → Live (D :: eo) H1 → Iv H1 → J.yld i H1 x H' → (∀ y H4 f, G i f → Kp ex H1 H4 → Iv H4 → Rp (D :: eo) H4 y f → N y H4) →
      g x (wipe σ vs) H' fun σ2 H2 => wipe σ2 vs = wipe σ vs ∧ tt σ2 H2 fun b H3 => if b = true then tx σ2 H3 N else Nx H3)
    (hd : ∀ v' H' fs, fs.length = m → (∀ i f, fs[i]? = some f → G i f) → Kp ex H H' → Iv H' → Rp eo H' v' (.lst fs) → Q v' H') : rawC J g tt tx vs σ H Q := by
  intro D hD
  have nD : D ∉ eo := (hL H I0).new hD
  have nE : D ∉ ex := fun z => nD (sub _ z)
  refine ⟨fun i k H' => k = m - i ∧ i ≤ m ∧ Kp ex H H' ∧ Iv H' ∧ ∃ ys fs, H' D = some (.lst ys) ∧ fs.length = i ∧ (∀ j f, fs[j]? = some f → G j f) ∧ Rps (D :: eo) H' ys fs, ⟨m, rfl, Nat.zero_le _, Kp.refl.new hD, hI _ _ _ hD I0, [], [], upd_same, rfl, (fun j f z => by cases z), Rps.nil⟩, ?_⟩
  rintro i k H' ⟨rfl, hi, kp, iv, ys, fs, ey, lf, gf, ry⟩
  by_cases c : i < m
  · refine .inr ⟨hgo i H' c kp, fun H4 => i + 1 ≤ m ∧ Kp ex H H4 ∧ Iv H4 ∧ ∃ ys fs, H4 D = some (.lst ys) ∧ fs.length = i + 1 ∧ (∀ j f, fs[j]? = some f → G j f) ∧ Rps (D :: eo) H4 ys fs, fun H4 q => ⟨m - (i + 1), by omega, rfl, q⟩, fun x H1 y => ?_⟩
    refine hs D i x H' H1 _ _ hD c kp ((hL _ iv).cons ey) iv y fun z H4 f gz k4 iv4 r4 => ⟨ys, k4 _ _ nE ey, szl ?_, c, (kp.trans k4).own hD, hI _ _ _ hD iv4, ys ++ [z], fs ++ [f], upd_same, by simp [lf], fun j e he => ?_, ?_⟩
    · rw [ry.1]; omega
    · by_cases q : j < fs.length
      · rw [List.getElem?_append_left q] at he
        exact gf j e he
      · rw [List.getElem?_append_right (by omega)] at he
        have e0 : j - fs.length = 0 := by
          have := (List.getElem?_eq_some_iff.mp he).1
          simp at this
          omega
        rw [e0] at he
        cases he
        have ej : j = i := by omega
        rw [ej]
        exact gz
    · exact rps_snoc (rps_kp ry (((k4.mono sub).more).mut (List.mem_cons_self ..))) (r4.kp (Kp.refl.mut (List.mem_cons_self ..)))
  · have e : i = m := by omega
    subst e
    exact .inl ⟨hstop H' kp, hd (.ref D) H' fs lf gf kp iv (rps_lst (rps_tail ry) nD ey)⟩
theorem x_mapE {eo : List Addr} (Iv : Hp → Prop) (sub : ∀ a, a ∈ ex → a ∈ eo) (G : Nat → Da → Prop) (h : Rp ex H v d) (s : d.seq ds) (hm : ds.length < 100000) (I0 : Iv H) (hL : ∀ H', Iv H' → Live eo H') (hI : ∀ H' D o, H D = none → Iv H' → Iv (upd H' D o))
    (hs : ∀ D (i : Nat) x e H1 (N : V → Hp → Prop) (Nx : Hp → Prop), H D = none → ds[i]? = some e → Kp ex H H1 → Live (D :: eo) H1 → Iv H1 → Rp ex H1 x e → (∀ y H4 f, G i f → Kp ex H1 H4 → Iv H4 → Rp (D :: eo) H4 y f → N y H4) →
      g x (wipe σ vs) H1 fun σ2 H2 => wipe σ2 vs = wipe σ vs ∧ tt σ2 H2 fun b H3 => if b = true then tx σ2 H3 N else Nx H3)
    (hd : ∀ v' H' fs, fs.length = ds.length → (∀ i f, fs[i]? = some f → G i f) → Kp ex H H' → Iv H' → Rp eo H' v' (.lst fs) → Q v' H') :
    ∃ a', v = .ref a' ∧ (((∃ xs, SqL K H a' xs) ∧ rawC (Itl K a') g tt tx vs σ H Q) ∨ ((∃ xs, SqT K H a' xs) ∧ rawC (Itt K a') g tt tx vs σ H Q)) := by
  obtain ⟨a, xs, rfl, n, e, r⟩ := h.seqI s
  rcases e with e | e
  · refine ⟨a, rfl, .inr ⟨⟨xs, SqT.of e⟩, raw_mapE Iv sub G hm I0 hL hI (fun H' kp => ⟨xs, SqT.of (kp _ _ n e), by rw [r.1]; exact Nat.le_refl _⟩) (fun i H' c kp => ⟨xs, xs[i]'(by rw [r.1]; exact c), SqT.of (kp _ _ n e), List.getElem?_eq_getElem _⟩) (fun D i x H1 H' N Nx hD c kp L iv y hN => ?_) hd⟩⟩
    obtain ⟨rfl, hx⟩ := y
    obtain ⟨e', ee, re⟩ := rps_at r (hx xs (SqT.of (kp _ _ n e)))
    exact hs D i x e' _ N Nx hD ee kp L iv (re.kp kp) hN
  · refine ⟨a, rfl, .inl ⟨⟨xs, SqL.of e⟩, raw_mapE Iv sub G hm I0 hL hI (fun H' kp => ⟨xs, SqL.of (kp _ _ n e), by rw [r.1]; exact Nat.le_refl _⟩) (fun i H' c kp => ⟨xs, xs[i]'(by rw [r.1]; exact c), SqL.of (kp _ _ n e), List.getElem?_eq_getElem _⟩) (fun D i x H1 H' N Nx hD c kp L iv y hN => ?_) hd⟩⟩
    obtain ⟨rfl, hx⟩ := y
    obtain ⟨e', ee, re⟩ := rps_at r (hx xs (SqL.of (kp _ _ n e)))
    exact hs D i x e' _ N Nx hD ee kp L iv (re.kp kp) hN
theorem of_all {α : Type} {F : α → Da} {G : α → Prop} : ∀ {fs : List Da} (_ : ∀ (i : Nat) f, fs[i]? = some f → ∃ p, f = F p ∧ G p), ∃ l : List α, fs = l.map F ∧ ∀ p, p ∈ l → G p
  | [], _ => ⟨[], rfl, fun p h => (nomatch h)⟩
  | f :: fs, h => by
    obtain ⟨p, e, gp⟩ := h 0 f rfl
    obtain ⟨l, e2, gl⟩ := of_all (fs := fs) fun i z hz => h (i + 1) z hz
    exact ⟨p :: l, by rw [List.map_cons, e, e2], fun q hq => by
      rcases List.mem_cons.mp hq with rfl | hq
      · exact gp
      · exact gl q hq⟩
/-- over range(m) -/
theorem x_mapN (Iv : Hp → Prop) (hf : fs.length = m) (hm : m < 100000) (I0 : Iv H) (hL : ∀ H', Iv H' → Live ex H') (hI : ∀ H' D o, H D = none → Iv H' → Iv (upd H' D o))
    (hs : ∀ D (i : Nat) f H1 (N : V → Hp → Prop) (Nx : Hp → Prop), H D = none → i < m → fs[i]? = some f → Kp ex H H1 → Live (D :: ex) H1 → Iv H1 → (∀ y H4, Kp ex H1 H4 → Iv H4 → Rp (D :: ex) H4 y f → N y H4) →
      g (.int (i : Int)) (wipe σ vs) H1 fun σ2 H2 => wipe σ2 vs = wipe σ vs ∧ tt σ2 H2 fun b H3 => if b = true then tx σ2 H3 N else Nx H3)
    (hd : ∀ v' H', Kp ex H H' → Iv H' → Rp ex H' v' (.lst fs) → Q v' H') : rawC (Itr 0 m) g tt tx vs σ H Q := by
  refine raw_map Iv (fun _ z => z) hf hm I0 hL hI (fun H' _ => Nat.le_refl _) (fun i H' c _ => c) (fun D i x f H1 H' N Nx hD c ef kp L iv y hN => ?_) hd
  obtain ⟨rfl, rfl⟩ := y
  rw [Int.zero_add]
  exact hs D i f _ N Nx hD c ef kp L iv hN
theorem x_lcZ {tr : TA} (q : tr σ H fun us H1 => ∃ a b xs ys t u, us = [.ref a, .ref b] ∧ SqB K t H1 a xs ∧ SqB K u H1 b ys ∧ rawC (Itz2 K t u a b) g tt tx vs σ H1 Q) : tLc (iZx K tr) g tt tx vs σ H Q := q
theorem x_forZ {tr : TA} {ts : TS} {n b c : L2.St → Hp → Prop} {r : VK} (q : tr σ H fun us H1 => ∃ a b' xs ys t u, us = [.ref a, .ref b'] ∧ SqB K t H1 a xs ∧ SqB K u H1 b' ys ∧ rawJ (Itz2 K t u a b') g ts ⟨n, r, b, c⟩ σ H1) : tFor (iZx K tr) g ts ⟨n, r, b, c⟩ σ H := q
/-- a row of data as zip takes it -/
theorem Rp.sqB (h : Rp ex H v d) (s : d.seq ds) : ∃ a xs t, v = .ref a ∧ a ∉ ex ∧ Rps ex H xs ds ∧ (∀ K : PySem.W.Frag, SqB K t H a xs) ∧ ∀ (K : PySem.W.Frag) H', Kp ex H H' → SqB K t H' a xs := by
  obtain ⟨a, xs, rfl, n, e, r⟩ := h.seqI s
  rcases e with e | e
  · exact ⟨a, xs, true, rfl, n, r, fun K => SqT.of e, fun K H' kp => SqT.of (kp _ _ n e)⟩
  · exact ⟨a, xs, false, rfl, n, r, fun K => SqL.of e, fun K H' kp => SqL.of (kp _ _ n e)⟩
/-- over zip of two rows of one length -/
theorem x_mapZ (Iv : Hp → Prop) (h1 : Rp ex H v d1) (s1 : d1.seq ds) (h2 : Rp ex H u d2) (s2 : d2.seq es) (hl : es.length = ds.length) (hf : fs.length = ds.length) (hm : ds.length < 100000) (I0 : Iv H) (hL : ∀ H', Iv H' → Live ex H') (hI : ∀ H' D o, H D = none → Iv H' → Iv (upd H' D o))
    (hI2 : ∀ H' D o, H' D = none → Iv H' → Iv (upd H' D o))
    (hs : ∀ D (i : Nat) x e e' f H1 (N : V → Hp → Prop) (Nx : Hp → Prop), H D = none → ds[i]? = some e → es[i]? = some e' → fs[i]? = some f → Kp ex H H1 → Live (D :: ex) H1 → Iv H1 → Rp (D :: ex) H1 x (.tup [e, e']) → (∀ y H4, Kp ex H1 H4 → Iv H4 → Rp (D :: ex) H4 y f → N y H4) →
      g x (wipe σ vs) H1 fun σ2 H2 => wipe σ2 vs = wipe σ vs ∧ tt σ2 H2 fun b H3 => if b = true then tx σ2 H3 N else Nx H3)
    (hd : ∀ v' H', Kp ex H H' → Iv H' → Rp ex H' v' (.lst fs) → Q v' H') :
    ∃ a b xs ys t u', [v, u] = [.ref a, .ref b] ∧ SqB K t H a xs ∧ SqB K u' H b ys ∧ rawC (Itz2 K t u' a b) g tt tx vs σ H Q := by
  obtain ⟨a, xs, t, rfl, na, ra, qa, ka⟩ := h1.sqB s1
  obtain ⟨b, ys, u', rfl, nb, rb, qb, kb⟩ := h2.sqB s2
  refine ⟨a, b, xs, ys, t, u', rfl, qa K, qb K, raw_map Iv (fun _ z => z) hf hm I0 hL hI (fun H' kp => ⟨xs, ys, ka K H' kp, kb K H' kp, .inl (by rw [ra.1]; exact Nat.le_refl _)⟩) (fun i H' c kp => ⟨xs, ys, xs[i]'(by rw [ra.1]; exact c), ys[i]'(by rw [rb.1, hl]; exact c), ka K H' kp, kb K H' kp, List.getElem?_eq_getElem _, List.getElem?_eq_getElem _⟩) (fun D i x f H1 H' N Nx hD c ef kp L iv y hN => ?_) hd⟩
  obtain ⟨T, x1, y1, rfl, hT, rfl, hx, hy⟩ := y
  obtain ⟨e, ee, re⟩ := rps_at ra (hx xs (ka K _ kp))
  obtain ⟨e', ee', re'⟩ := rps_at rb (hy ys (kb K _ kp))
  have s := Same.new (o := .tup [x1, y1]) (Same.refl H1) hT
  refine hs D i _ e e' f _ N Nx hD ee ee' ef (kp.same s) (L.same s) (hI2 _ _ _ hT iv) ?_ fun y H4 k4 iv4 r4 => hN y H4 ((Same.kp s).trans k4) iv4 r4
  exact rps_tup (Rps.cons (((re.grow hD).kp kp.more).same s) (Rps.cons (((re'.grow hD).kp kp.more).same s) Rps.nil)) (L.new hT) upd_same
/-- a loop over zip of two rows of one length; H0, a heap that knows them -/
theorem x_zipF {H0 : Hp} {ts : TS} {n b c : L2.St → Hp → Prop} {r : VK} (h1 : Rp ex H0 v d1) (s1 : d1.seq ds) (h2 : Rp ex H0 u d2) (s2 : d2.seq es) (hl : es.length = ds.length) (Pv : Nat → L2.St → Hp → Prop) (h0 : Pv 0 σ H) (hk : ∀ i σ H', Pv i σ H' → Kp ex H0 H' ∧ Live ex H')
    (hs : ∀ (i : Nat) x e e' σ H1 H', ds[i]? = some e → es[i]? = some e' → Pv i σ H1 → Same H1 H' → Rp ex H' x (.tup [e, e']) → g x σ H' fun σ2 H2 => ts ⟨Pv (i + 1), r, n, Pv (i + 1)⟩ σ2 H2)
    (hd : ∀ σ H, Pv ds.length σ H → n σ H) :
    ∃ a b' xs ys t u', [v, u] = [.ref a, .ref b'] ∧ SqB K t H a xs ∧ SqB K u' H b' ys ∧ rawJ (Itz2 K t u' a b') g ts ⟨n, r, b, c⟩ σ H := by
  obtain ⟨a, xs, t, rfl, na, ra, qa, ka⟩ := h1.sqB s1
  obtain ⟨b', ys, u', rfl, nb, rb, qb, kb⟩ := h2.sqB s2
  obtain ⟨kp0, _⟩ := hk 0 σ H h0
  refine ⟨a, b', xs, ys, t, u', rfl, ka K H kp0, kb K H kp0, fun i k σ H' => k = ds.length - i ∧ i ≤ ds.length ∧ Pv i σ H', ⟨_, rfl, Nat.zero_le _, h0⟩, ?_⟩
  rintro i k σ H' ⟨rfl, hi, p⟩
  obtain ⟨kp, L⟩ := hk i σ H' p
  by_cases c : i < ds.length
  · refine .inr ⟨⟨xs, ys, xs[i]'(by rw [ra.1]; exact c), ys[i]'(by rw [rb.1, hl]; exact c), ka K H' kp, kb K H' kp, List.getElem?_eq_getElem _, List.getElem?_eq_getElem _⟩, Pv (i + 1), fun σ' H2 p' => ⟨ds.length - (i + 1), by omega, rfl, c, p'⟩, fun x H2 y => ?_⟩
    obtain ⟨T, x1, y1, rfl, hT, rfl, hx, hy⟩ := y
    obtain ⟨e, ee, re⟩ := rps_at ra (hx xs (ka K _ kp))
    obtain ⟨e', ee', re'⟩ := rps_at rb (hy ys (kb K _ kp))
    have s := Same.new (o := .tup [x1, y1]) (Same.refl H') hT
    exact hs i _ e e' σ H' _ ee ee' p s (rps_tup (Rps.cons ((re.kp kp).same s) (Rps.cons ((re'.kp kp).same s) Rps.nil)) (L.new hT) upd_same)
  · have e : i = ds.length := by omega
    subst e
    exact .inl ⟨⟨xs, ys, ka K H' kp, kb K H' kp, .inl (by rw [ra.1]; exact Nat.le_refl _)⟩, hd σ H' p⟩
/-- a loop over a row -/
theorem x_loopS {H0 : Hp} {ts : TS} {n b c : L2.St → Hp → Prop} {r : VK} (h : Rp ex H0 v d) (s : d.seq ds) (Pv : Nat → L2.St → Hp → Prop) (h0 : Pv 0 σ H) (hk : ∀ i σ H', Pv i σ H' → Kp ex H0 H')
    (hs : ∀ (i : Nat) x e σ H1, ds[i]? = some e → Pv i σ H1 → Rp ex H1 x e → Rp ex H0 x e → g x σ H1 fun σ2 H2 => ts ⟨Pv (i + 1), r, n, Pv (i + 1)⟩ σ2 H2) (hd : ∀ σ H, Pv ds.length σ H → n σ H) :
    ∃ a', v = .ref a' ∧ (((∃ xs, SqL K H a' xs) ∧ rawJ (Itl K a') g ts ⟨n, r, b, c⟩ σ H) ∨ ((∃ xs, SqT K H a' xs) ∧ rawJ (Itt K a') g ts ⟨n, r, b, c⟩ σ H)) := by
  obtain ⟨a, xs, rfl, na, e, ra⟩ := h.seqI s
  have kp0 := hk 0 σ H h0
  rcases e with e | e
  · refine x_loopT (SqT.of (kp0 _ _ na e)) Pv h0 (fun i σ H' _ p => SqT.of (hk i σ H' p _ _ na e)) (fun i x σ H1 hx p => ?_) (by rw [ra.1]; exact hd)
    obtain ⟨f, ef, rf⟩ := rps_at ra hx
    exact hs i x f σ H1 ef p (rf.kp (hk i σ H1 p)) rf
  · refine x_loopL (SqL.of (kp0 _ _ na e)) Pv h0 (fun i σ H' _ p => SqL.of (hk i σ H' p _ _ na e)) (fun i x σ H1 hx p => ?_) (by rw [ra.1]; exact hd)
    obtain ⟨f, ef, rf⟩ := rps_at ra hx
    exact hs i x f σ H1 ef p (rf.kp (hk i σ H1 p)) rf
/-- taken apart -/
theorem x_gRp {gs : TGs} {n : L2.St → Hp → Prop} (h : Rp ex H v d) (s : d.seq ds) (e : ds.length = m) (q : ∀ xs, Rps ex H xs ds → gs xs σ H n) : gX K m gs v σ H n := by
  obtain ⟨a, xs, rfl, na, e', r⟩ := h.seqI s
  exact x_gX e' (by rw [r.1, e]) (q xs r)
theorem rps_two {xs : List V} {i j : Int} (r : Rps ex H xs [.int i, .int j]) : xs = [.int i, .int j] := by
  obtain ⟨l, q⟩ := r
  match xs, l, q with
  | [a, b], _, q =>
    rw [(q 0 a (.int i) rfl rfl).intI, (q 1 b (.int j) rfl rfl).intI]
theorem x_gPair {gs : TGs} {i j : Int} {n : L2.St → Hp → Prop} (h : Rp ex H v d) (s : d.seq [.int i, .int j]) (q : gs [.int i, .int j] σ H n) : gX K 2 gs v σ H n :=
  x_gRp h s rfl fun xs r => by rw [rps_two r]; exact q
theorem rps_2 {xs : List V} (r : Rps ex H xs [d1, d2]) : ∃ x y, xs = [x, y] ∧ Rp ex H x d1 ∧ Rp ex H y d2 := by
  obtain ⟨l, q⟩ := r
  match xs, l, q with
  | [a, b], _, q => exact ⟨a, b, rfl, q 0 a d1 rfl rfl, q 1 b d2 rfl rfl⟩
theorem mx2 (i j : Int) : nuMax2 (.int i) (.int j) = some (.int (if j > i then j else i)) := by
  show some (if decide (i < j) = true then V.int j else V.int i) = _
  by_cases c : i < j
  · rw [decide_eq_true c, if_pos rfl, if_pos c]
  · rw [decide_eq_false c, if_neg (by decide), if_neg c]
theorem nuMax3_int (i j k : Int) : nuMax3 (.int i) (.int j) (.int k) = some (.int (if k > (if j > i then j else i) then k else if j > i then j else i)) := by
  unfold nuMax3
  rw [mx2]
  exact mx2 _ _
theorem x_slFromL {k : Nat} {z : Int} (h : Rp ex H v (.lst ds)) (hz : z = (k : Int)) (L : Live ex H) (q : ∀ v' H', Same H H' → Rp ex H' v' (.lst (ds.drop k)) → Q v' H') : rSlX K v (some z) none H Q := by
  subst hz
  obtain ⟨a, xs, rfl, n, e, r⟩ := h.lstI
  have r2 : Rps ex H (cutV xs (some (k : Int)) none) (ds.drop k) := by rw [cut_from]; exact rps_drop r
  exact x_slL (SqL.of e) fun p hp => q _ _ (Same.new (Same.refl _) hp) (rps_lst (rps_same r2 (Same.new (Same.refl _) hp)) (L.new hp) upd_same)
/-- three numbers' greatest -/
theorem x_max3 {i j k : Int} (q : Q (.int (if k > (if j > i then j else i) then k else if j > i then j else i)) H) : rMx3 [.int i, .int j, .int k] H Q := ⟨.int i, .int j, .int k, _, rfl, nuMax3_int i j k, q⟩
/-! least and greatest of a row -/
theorem ints_of {xs : List V} {ns : List Int} (r : Rps ex H xs (ns.map Da.int)) : xs = ns.map V.int := by
  refine List.ext_getElem? fun i => ?_
  by_cases c : i < ns.length
  · have h2 : (ns.map Da.int)[i]? = some (.int ns[i]) := by rw [List.getElem?_map, List.getElem?_eq_getElem c]; rfl
    obtain ⟨x, hx, rx⟩ := rps_get r h2
    rw [hx, rx.intI, List.getElem?_map, List.getElem?_eq_getElem c]; rfl
  · rw [List.getElem?_eq_none (by rw [r.1, List.length_map]; omega), List.getElem?_eq_none (by rw [List.length_map]; omega)]
noncomputable def mnL (ns : List Int) : Int := open Classical in if h : ∃ m, m ∈ ns ∧ ∀ y, y ∈ ns → m ≤ y then h.choose else 0
noncomputable def mxL (ns : List Int) : Int := open Classical in if h : ∃ m, m ∈ ns ∧ ∀ y, y ∈ ns → y ≤ m then h.choose else 0
theorem mnL_eq {ns : List Int} {m : Int} (h1 : m ∈ ns) (h2 : ∀ y, y ∈ ns → m ≤ y) : m = mnL ns := by
  have h : ∃ m, m ∈ ns ∧ ∀ y, y ∈ ns → m ≤ y := ⟨m, h1, h2⟩
  unfold mnL
  rw [dif_pos h]
  exact Int.le_antisymm (h2 _ h.choose_spec.1) (h.choose_spec.2 _ h1)
theorem mxL_eq {ns : List Int} {m : Int} (h1 : m ∈ ns) (h2 : ∀ y, y ∈ ns → y ≤ m) : m = mxL ns := by
  have h : ∃ m, m ∈ ns ∧ ∀ y, y ∈ ns → y ≤ m := ⟨m, h1, h2⟩
  unfold mxL
  rw [dif_pos h]
  exact Int.le_antisymm (h.choose_spec.2 _ h1) (h2 _ h.choose_spec.1)
theorem x_minL {ns : List Int} (h : Rp ex H v (.lst (ns.map Da.int))) (h0 : 0 < ns.length) (q : Q (.int (mnL ns)) H) : rMin K [v] H Q := by
  obtain ⟨a, xs, rfl, na, e, r⟩ := h.lstI
  rw [ints_of r] at e
  exact ⟨a, ns, rfl, SqL.of e, h0, fun m h1 h2 => by rw [mnL_eq h1 h2]; exact q⟩
theorem x_maxL {ns : List Int} (h : Rp ex H v (.lst (ns.map Da.int))) (h0 : 0 < ns.length) (q : Q (.int (mxL ns)) H) : rMax K [v] H Q := by
  obtain ⟨a, xs, rfl, na, e, r⟩ := h.lstI
  rw [ints_of r] at e
  exact ⟨a, ns, rfl, SqL.of e, h0, fun m h1 h2 => by rw [mxL_eq h1 h2]; exact q⟩
theorem bls_of {xs : List V} {ns : List Bool} (r : Rps ex H xs (ns.map Da.bl)) : xs = ns.map V.bl := by
  refine List.ext_getElem? fun i => ?_
  by_cases c : i < ns.length
  · have h2 : (ns.map Da.bl)[i]? = some (.bl ns[i]) := by rw [List.getElem?_map, List.getElem?_eq_getElem c]; rfl
    obtain ⟨x, hx, rx⟩ := rps_get r h2
    rw [hx, rx.blI, List.getElem?_map, List.getElem?_eq_getElem c]; rfl
  · rw [List.getElem?_eq_none (by rw [r.1, List.length_map]; omega), List.getElem?_eq_none (by rw [List.length_map]; omega)]
theorem x_allR {ns : List Bool} (h : Rp ex H v (.lst (ns.map Da.bl))) (q : Q (.bl (ns.all id)) H) : rAll K [v] H Q := by
  obtain ⟨a, xs, rfl, na, e, r⟩ := h.lstI
  rw [bls_of r] at e
  exact x_allB ns e q
theorem x_tupR (h : Rp ex H v (.lst ds)) (L : Live ex H) (q : ∀ v' H', Same H H' → Rp ex H' v' (.tup ds) → Q v' H') : rTupOf K [v] H Q := by
  obtain ⟨a, xs, rfl, na, e, r⟩ := h.lstI
  exact x_tupL (SqL.of e) fun p hp => q _ _ (Same.new (Same.refl _) hp) (rps_tup (rps_same r (Same.new (Same.refl _) hp)) (L.new hp) upd_same)
end
end Bx
namespace Bx
open PySem L2
/-! ### enumerate of a row of either kind -/
section
variable {prog : Program} {w : World} {A : Around} {E : Value → Shared → Prop} {s : Shared}
theorem en_item {t : Bool} {ea ia l : Addr} {n : Nat} {xs : Array Value} {x old : Value} {Q : Value → Shared → Prop} (ne : ea ≠ ia)
    (Z : IsEnum s.heap ea ia (n : Int) old) (r : ItAt t s.heap ia l n) (b : RowAt t s.heap l xs) (e : xs[n]? = some x)
    (q : ∀ g, IsEnumOut g ea ia ((n : Int) + 1) x s.heap.objs.size → ItAt t g ia l (n + 1) → g.get? s.heap.objs.size = some { cls := .type "tuple", data := .seq #[.int n s.toks, x] } →
      (∀ c o, c ≠ ea → c ≠ ia → s.heap.get? c = some o → g.get? c = some o) → Q (.ref s.heap.objs.size) { s with heap := g, toks := s.toks + 1 }) :
    wpAny (model prog w) A (Builtin.«enumerate.__next__» ⟨[.ref ea], []⟩) (fun f s' => ∃ v, f = .done (.ret v) ∧ Q v s') E s := by
  obtain ⟨hp, gn, dr, tk, os⟩ := s
  show wpAny _ _ (field (.ref ea) 2 >>= _) _ _ _
  refine wpAny_bind (wpAny_field Z rfl (x := .ref ia) rfl (wpAny_bind (nx_item r b e fun g1 r1 s1 => ?_)))
  replace s1 : Heap.SameBut ia hp g1 := s1
  have Z1 : IsEnum g1 ea ia (n : Int) old := s1.extBut _ _ ne Z
  show wpAny _ _ (field (.ref ea) 3 >>= _) _ _ ⟨g1, gn, dr, tk, os⟩
  refine wpAny_bind (wpAny_field Z1 rfl (x := rawInt n) rfl (show wpAny _ _ (field (.ref ea) 4 >>= _) _ _ ⟨g1, gn, dr, tk, os⟩ from wpAny_bind (wpAny_field Z1 rfl (x := .none) rfl ?_)))
  show wpAny _ _ (mkInt n >>= _) _ _ ⟨g1, gn, dr, tk, os⟩
  refine wpAny_bind (wpAny_mkInt (show wpAny _ _ (setField (.ref ea) 3 (rawInt ((n : Int) + 1)) >>= _) _ _ ⟨g1, gn, dr, tk + 1, os⟩ from ?_))
  refine wpAny_bind (wpAny_setField_rec Z1 (by simp) fun g2 Z2 s2 => ?_)
  replace s2 : Heap.SameBut ea g1 g2 := s2
  replace Z2 : IsEnum g2 ea ia ((n : Int) + 1) old := Z2
  show wpAny _ _ (setField (.ref ea) 4 .none >>= _) _ _ ⟨g2, gn, dr, tk + 1, os⟩
  refine wpAny_bind (wpAny_setField_rec Z2 (by simp) fun g3 Z3 s3 => ?_)
  replace s3 : Heap.SameBut ea g2 g3 := s3
  replace Z3 : IsEnum g3 ea ia ((n : Int) + 1) old := Z3
  show wpAny _ _ (newTuple [.int n tk, x] >>= _) _ _ ⟨g3, gn, dr, tk + 1, os⟩
  refine wpAny_bind (wpAny_newTuple ?_)
  have sz : g3.objs.size = hp.objs.size := by rw [s3.1, s2.1, s1.1]
  have el : ea < hp.objs.size := Heap.lt_size Z
  have k3 : ∀ c o, c ≠ ea → c ≠ ia → hp.get? c = some o → g3.get? c = some o := fun c o n1 n2 h => s3.extBut _ _ n1 (s2.extBut _ _ n1 (s1.extBut _ _ n2 h))
  have r3 : ItAt t g3 ia l (n + 1) := r1.to fun o h => s3.extBut _ _ ne.symm (s2.extBut _ _ ne.symm h)
  have T4 := Heap.get?_push_size g3 (o := { cls := .type "tuple", data := .seq #[.int n tk, x] }) rfl
  have Z4 : IsEnum (g3.push { cls := .type "tuple", data := .seq #[.int n tk, x] }) ea ia ((n : Int) + 1) old := Heap.get?_push_of_some _ Z3
  have k4 : ∀ c o, g3.get? c = some o → (g3.push { cls := .type "tuple", data := .seq #[.int n tk, x] }).get? c = some o := fun c o h => Heap.get?_push_of_some _ h
  rw [sz] at T4
  rw [sz]
  generalize g3.push { cls := .type "tuple", data := .seq #[.int n tk, x] } = g4 at Z4 T4 k4
  show wpAny _ _ (Builtin.SmallTypes.ownedTupleIsFree (.ref ea) >>= _) _ _ ⟨g4, gn, dr, tk + 1, os⟩
  unfold Builtin.SmallTypes.ownedTupleIsFree
  refine wpAny_bind (wpAny_bind (wpAny_field Z4 rfl (x := .none) rfl (wpAny_pure ?_)))
  simp only [if_true]
  refine wpAny_bind (wpAny_rule (wpAny_bind (wpAny_field Z4 rfl (x := old) rfl (wpAny_bind (wpAny_setField_rec Z4 (by simp) fun g5 Z5 s5 => ?_)))))
  replace s5 : Heap.SameBut ea g4 g5 := s5
  replace Z5 : IsEnum g5 ea ia ((n : Int) + 1) x := Z5
  show wpAny _ _ (Builtin.SmallTypes.ownedTupleHandOut (.ref ea) (.ref hp.objs.size) >>= _) _ _ ⟨g5, gn, dr, tk + 1, os⟩
  unfold Builtin.SmallTypes.ownedTupleHandOut
  refine wpAny_bind (wpAny_bind (wpAny_setField_rec Z5 (by simp) fun g6 Z6 s6 => ?_))
  replace s6 : Heap.SameBut ea g5 g6 := s6
  replace Z6 : IsEnumOut g6 ea ia ((n : Int) + 1) x hp.objs.size := Z6
  refine wpAny_setField_rec Z6 (by simp) fun g7 Z7 s7 => ?_
  replace s7 : Heap.SameBut ea g6 g7 := s7
  replace Z7 : IsEnumOut g7 ea ia ((n : Int) + 1) x hp.objs.size := Z7
  have k7 : ∀ c o, c ≠ ea → g4.get? c = some o → g7.get? c = some o := fun c o n1 h => s7.extBut _ _ n1 (s6.extBut _ _ n1 (s5.extBut _ _ n1 h))
  refine wpAny_bind (wpAny_letGo (wpAny_pure ⟨_, rfl, q g7 Z7 (r3.to fun o h => k7 _ _ ne.symm (k4 _ _ h)) (k7 _ _ (Nat.ne_of_gt el) T4) fun c o n1 n2 h => k7 _ _ n1 (k4 _ _ (k3 c o n1 n2 h))⟩))
theorem en_next {t : Bool} {ea ia l : Addr} {n : Nat} {xs : Array Value} {x old : Value} {Q : Option Value → Shared → Prop} (ne : ea ≠ ia)
    (Z : IsEnum s.heap ea ia (n : Int) old) (r : ItAt t s.heap ia l n) (b : RowAt t s.heap l xs) (e : xs[n]? = some x)
    (q : ∀ g, IsEnumOut g ea ia ((n : Int) + 1) x s.heap.objs.size → ItAt t g ia l (n + 1) → g.get? s.heap.objs.size = some { cls := .type "tuple", data := .seq #[.int n s.toks, x] } →
      (∀ c o, c ≠ ea → c ≠ ia → s.heap.get? c = some o → g.get? c = some o) → Q (some (.ref s.heap.objs.size)) { s with heap := g, toks := s.toks + 1 }) : wpAny (model prog w) A (pyNext (.ref ea)) Q E s := by
  have T : s.TypeIs (.ref ea) "enumerate" := ⟨_, Z, rfl⟩
  unfold pyNext
  refine wpAny_bind (wpAny_attempt (wpAny_callSpecial?_slot (name := Str.ofString "__next__") T F.slot_enumerate_next (wpAny_call_entry F.slot_enumerate_next T F.entry_enumerate_next ?_ (F.args_enumerate_next_1 _))))
  exact en_item ne Z r b e fun g a c d k => wpAny_pure (q g a c d k)
theorem en_stop {t : Bool} {ea ia l : Addr} {n : Nat} {xs : Array Value} {old : Value} {Q : Option Value → Shared → Prop} (hh : A.handled = none)
    (Z : IsEnum s.heap ea ia (n : Int) old) (r : ItAt t s.heap ia l n) (b : RowAt t s.heap l xs) (e : xs[n]? = none) (q : ∀ g, Heap.ExtBut ia s.heap g → Q none { s with heap := g }) : wpAny (model prog w) A (pyNext (.ref ea)) Q E s := by
  have T : s.TypeIs (.ref ea) "enumerate" := ⟨_, Z, rfl⟩
  unfold pyNext
  refine wpAny_bind (wpAny_attempt (wpAny_callSpecial?_slot (name := Str.ofString "__next__") T F.slot_enumerate_next (wpAny_call_entry F.slot_enumerate_next T F.entry_enumerate_next ?_ (F.args_enumerate_next_1 _))))
  show wpAny _ _ (field (.ref ea) 2 >>= _) _ _ _
  refine wpAny_bind (wpAny_field Z rfl (x := .ref ia) rfl (wpAny_bind (nx_end hh r b e fun g c k ⟨o, eo, co⟩ => ?_)))
  exact wpAny_bind (wpAny_isInstance (T := "StopIteration") (b := true) ⟨o, eo, co⟩ isSubtype_stop (wpAny_pure (q _ k)))
open AutoSeq1 (wpAny_loadPart') in
theorem en_new (l : Addr) (xs : Array Value) (n : Nat) (dct : Option Addr) (sl : Array (Option Value)) : Meets (Builtin.«enumerate.__new__» ⟨[.type "enumerate", .ref l], []⟩)
    (fun _ R s => s.heap.get? l = some { cls := .type "tuple", dict := dct, data := .seq xs n, slots := sl } ∧ R (.ok (.ret (.ref (s.heap.push { cls := .type "tuple_iterator", data := .fields #[.ref l, .int 0 0] }).objs.size)))
        { s with heap := (s.heap.push { cls := .type "tuple_iterator", data := .fields #[.ref l, .int 0 0] }).push { cls := .type "enumerate", data := .fields #[.none, .bool false, .ref s.heap.objs.size, rawInt 0, .none, .none] } }) :=
  .of_wp fun prog w A R s h => by
    obtain ⟨hp, a1, a2, a3, a4⟩ := s
    obtain ⟨el, h⟩ := h
    have sub := sub_enumerate
    have L1 : Heap.IsTuple (Shared.heap ⟨hp, a1, a2, a3, a4⟩) l xs := ⟨_, el, rfl, n, rfl⟩
    wp_walk using wpAny_loadPart' el
    refine wpAny_stack_any fun st => wpAny_pure ?_
    split
    · rename_i c _ _ _ _ _
      cases (c == Value.type "enumerate")
      · wp_walk using wpAny_loadPart' el, wpAny_pyIter_tuple L1
        exact ⟨_, rfl, h⟩
      · wp_walk using wpAny_loadPart' el, wpAny_pyIter_tuple L1
        exact ⟨_, rfl, h⟩
    · wp_walk using wpAny_loadPart' el, wpAny_pyIter_tuple L1
      exact ⟨_, rfl, h⟩
theorem en_call {t : Bool} {l : Addr} {xs : Array Value} {Q : Value → Shared → Prop} (r : RowAt t s.heap l xs)
    (q : ∀ g, IsEnum g (s.heap.objs.size + 1) s.heap.objs.size 0 .none → ItAt t g s.heap.objs.size l 0 → (∀ c o, s.heap.get? c = some o → g.get? c = some o) → Q (.ref (s.heap.objs.size + 1)) { s with heap := g }) :
    wpAny (model prog w) A (call (.type "enumerate") [.ref l]) Q E s := by
  cases t with
  | false => exact call_enumerate_list r fun g a b _ k => q g a b k
  | true =>
    obtain ⟨⟨c, dct, dt, sl⟩, el, hc, n, hd⟩ := r
    cases hc
    cases hd
    refine callType_new F.called_enumerate (by decide) (F.typeCall_enumerate_1 _) (F.newCall_enumerate_1 _) (fun obj => F.args_object_init_2 obj _) F.entry_enumerate_new (en_new l xs n dct sl) ⟨el, ?_⟩
    have n1 : (zg1 "tuple_iterator" s.heap l).objs.size = s.heap.objs.size + 1 := Heap.size_push ..
    have e2 : IsEnum ((zg1 "tuple_iterator" s.heap l).push { cls := .type "enumerate", data := .fields #[.none, .bool false, .ref s.heap.objs.size, rawInt 0, .none, .none] }) (zg1 "tuple_iterator" s.heap l).objs.size s.heap.objs.size 0 .none := Heap.get?_push_size _ rfl
    show _ ∧ _
    rw [n1] at e2
    rw [n1]
    exact ⟨⟨_, e2, rfl⟩, q _ e2 ⟨_, Heap.get?_push_of_some _ (Heap.get?_push_size _ rfl), rfl, rfl⟩ fun c o h => Heap.get?_push_of_some _ (Heap.get?_push_of_some _ h)⟩
end
def Ite2 (K : PySem.W.Frag) (t : Bool) (a : Addr) : It where
  go := fun i H => ∃ (xs : List V) (x : V), SqB K t H a xs ∧ xs[i]? = some x
  yld := fun i H v H' => ∃ T x, v = .ref T ∧ H T = none ∧ H' = upd H T (.tup [.int (i : Nat), x]) ∧ ∀ xs, SqB K t H a xs → xs[i]? = some x
  stop := fun i H => ∃ xs : List V, SqB K t H a xs ∧ xs.length ≤ i
theorem mem2 {c ea ia : Addr} (h : c ∈ [ea, ia]) : c = ea ∨ c = ia := by simpa using h
theorem turn_en {P : Program} {w : World} {K : PySem.W.Frag} {elts : List Expr} {kk : Nat} {tpos : Pos} {t : Bool} {a ea ia : Addr} (ne : ea ≠ ia) :
    Turn P w K (.Tuple elts kk tpos) (Ite2 K t a) [ea, ia] ea (fun i h => (∃ old, IsEnum h ea ia ((i : Nat) : Int) old) ∧ ItAt t h ia a i) where
  mem := by simp
  obj := fun i h ⟨⟨old, Z⟩, r⟩ c hc => by
    obtain ⟨o, e, d, _⟩ := r.get
    rcases mem2 hc with q | q <;> rw [q]
    · exact ⟨_, Z, fun _ z => nomatch z⟩
    · exact ⟨o, e, d⟩
  keep := fun i h h' ⟨⟨old, Z⟩, r⟩ k => ⟨⟨old, k ea (by simp) _ Z⟩, r.to fun o e => k ia (by simp) o e⟩
  item := by
    intro X hP hw hK hc i pins s σ H E I hf ⟨⟨old, Z⟩, r⟩ ⟨xs, x, qa, ex⟩
    subst hP hw hK
    obtain ⟨its, rv, pa⟩ := qa.to I
    obtain ⟨v, ev, rx⟩ := rv.get ex
    have el := Heap.lt_size Z
    refine en_next ne Z r pa (x := v) (by simpa using ev) fun g Zo r' T' k => ?_
    refine ⟨_, rfl, wpAny_letOwnedTupleGo_enum (s := { s with heap := g, toks := s.toks + 1 }) Zo fun g' Z' sb => ?_⟩
    have T2 : g'.get? s.heap.objs.size = some { cls := .type "tuple", data := .seq #[.int i s.toks, v] } := (sb.2 _ (Nat.ne_of_gt el)).trans T'
    have new : ObjOk X.prog X.w (upd H s.heap.objs.size (.tup [.int (i : Nat), x])) g' s.heap.objs.size (.tup [.int (i : Nat), x]) := ⟨(by decide : 2 ≤ sizeLine), [.int i s.toks, v], .cons ⟨_, rfl⟩ (.cons rx .nil), ⟨_, T2, rfl, _, rfl⟩⟩
    have I1 : Inv X pins σ (upd H s.heap.objs.size (.tup [.int (i : Nat), x])) { s with heap := g', toks := s.toks + 1 } :=
      I.turnedNew (ch := [ea, ia]) (fun c o nc e => (sb.2 c (fun z => nc (z ▸ by simp))).trans (k c o (fun z => nc (z ▸ by simp)) (fun z => nc (z ▸ by simp)) e)) hf (Nat.le_refl _) new
    refine ⟨.ref s.heap.objs.size, _, I1, rfl, ⟨_, x, rfl, I.hok.fresh (Nat.le_refl _), rfl, fun l hl => by rw [hl.inj qa I]; exact ex⟩, ⟨⟨v, ?_⟩, r'.to fun o e => (sb.2 _ ne.symm).trans e⟩, fun c hcm => ?_⟩
    · rw [show ((i + 1 : Nat) : Int) = (i : Int) + 1 by omega]
      exact Z'
    · have hlt : c < s.heap.objs.size := by
        obtain ⟨o, e, _⟩ := r.get
        rcases mem2 hcm with q | q <;> rw [q]
        · exact el
        · exact Heap.lt_size e
      rw [upd_ne (Nat.ne_of_lt hlt)]
      exact (hf c hcm).1
  done := by
    intro X hP hw hK hc i pins s σ H E I hf ⟨⟨old, Z⟩, r⟩ ⟨xs, qa, en⟩
    subst hP hw hK
    obtain ⟨its, rv, pa⟩ := qa.to I
    obtain ⟨f0, f1, f2, f3, f4, f5⟩ := hf ia (by simp)
    have l1 := rv.length
    exact en_stop (I.ok.hd hc) Z r pa (by simp; omega) fun g eb => ⟨rfl, I.turned (t' := s.toks) (fun c o nc e => eb c o nc e) f0 f1 f3 f4 f5⟩
  self := fun A i s Q E ⟨⟨_, Z⟩, _⟩ h => wpAny_pyIter_enum Z h
/-- enumerate(a) walked -/
def iEx (K : PySem.W.Frag) (ta : TA) : TI := fun σ H R => ta σ H fun vs H1 => ∃ a xs t, vs = [.ref a] ∧ SqB K t H1 a xs ∧ R (Ite2 K t a) H1
theorem pi_ex {X : Cx} {e : Expr} {ta : TA} {p pos tpos : Pos} {elts : List Expr} {kk : Nat} (hg : Gl X "enumerate") (hm : X.mg "enumerate" = none) (ha : PA X [e] ta) (hs : starEach [e] X.env = [(false, eval e X.env)] := by rfl) :
    PI X (.Tuple elts kk tpos) (.Call (.Name "enumerate" p) [e] [] pos) (iEx X.K ta) := by
  refine ⟨fun pins s σ H R I h => PyProof.Rows.Call_ (ld_blt I hg hm PyProof.Rows.boot_enumerate (PyProof.Rows.callWith_type1 (thn (ha.run pos pins s σ H _ I h) fun us s1 ⟨vs, H1, I1, r1, q1⟩ => ?_) hs rfl))⟩
  obtain ⟨a, xs, t, rfl, qa, q⟩ := q1
  cases r1 with
  | cons r rr =>
    cases rr
    cases r
    obtain ⟨its, rv, pa⟩ := qa.to I1
    refine en_call pa fun g Z r k => wpAny_pyIter_enum Z ?_
    refine ⟨_, _, _, _, H1, rfl, I1.kept (t' := s1.toks) k, turn_en (Nat.succ_ne_self _), ⟨⟨.none, Z⟩, r⟩, fun c hcm => ?_, q⟩
    have le : s1.heap.objs.size ≤ c := by
      rcases mem2 hcm with z | z <;> rw [z] <;> omega
    exact I1.fpOk le (I1.hok.fresh le)
section
variable {H : Hp} {Q : VK} {K : PySem.W.Frag} {v u : V} {ex : List Addr} {d d1 d2 : Da} {ds es fs : List Da} {σ : L2.St} {vs : List Nat} {g : TG} {tt : TT} {tx : TE} {m : Nat}
theorem x_forE {tr : TA} {ts : TS} {n b c : L2.St → Hp → Prop} {r : VK} (q : tr σ H fun us H1 => ∃ a xs t, us = [.ref a] ∧ SqB K t H1 a xs ∧ rawJ (Ite2 K t a) g ts ⟨n, r, b, c⟩ σ H1) : tFor (iEx K tr) g ts ⟨n, r, b, c⟩ σ H := q
/-- a loop over enumerate of a row; H0, a heap that knows it -/
theorem x_enF {H0 : Hp} {ts : TS} {n b c : L2.St → Hp → Prop} {r : VK} (h1 : Rp ex H0 v d1) (s1 : d1.seq ds) (Pv : Nat → L2.St → Hp → Prop) (h0 : Pv 0 σ H) (hk : ∀ i σ H', Pv i σ H' → Kp ex H0 H' ∧ Live ex H')
    (hs : ∀ (i : Nat) x e σ H1 H', ds[i]? = some e → Pv i σ H1 → Same H1 H' → Rp ex H' x (.tup [.int (i : Nat), e]) → g x σ H' fun σ2 H2 => ts ⟨Pv (i + 1), r, n, Pv (i + 1)⟩ σ2 H2)
    (hd : ∀ σ H, Pv ds.length σ H → n σ H) : ∃ a xs t, [v] = [.ref a] ∧ SqB K t H a xs ∧ rawJ (Ite2 K t a) g ts ⟨n, r, b, c⟩ σ H := by
  obtain ⟨a, xs, t, rfl, na, ra, qa, ka⟩ := h1.sqB s1
  obtain ⟨kp0, _⟩ := hk 0 σ H h0
  refine ⟨a, xs, t, rfl, ka K H kp0, fun i k σ H' => k = ds.length - i ∧ i ≤ ds.length ∧ Pv i σ H', ⟨_, rfl, Nat.zero_le _, h0⟩, ?_⟩
  rintro i k σ H' ⟨rfl, hi, p⟩
  obtain ⟨kp, L⟩ := hk i σ H' p
  by_cases c : i < ds.length
  · refine .inr ⟨⟨xs, xs[i]'(by rw [ra.1]; exact c), ka K H' kp, List.getElem?_eq_getElem _⟩, Pv (i + 1), fun σ' H2 p' => ⟨ds.length - (i + 1), by omega, rfl, c, p'⟩, fun x H2 y => ?_⟩
    obtain ⟨T, x1, rfl, hT, rfl, hx⟩ := y
    obtain ⟨e, ee, re⟩ := rps_at ra (hx xs (ka K _ kp))
    have s := Same.new (o := .tup [.int (i : Nat), x1]) (Same.refl H') hT
    exact hs i _ e σ H' _ ee p s (rps_tup (Rps.cons (.int _) (Rps.cons ((re.kp kp).same s) Rps.nil)) (L.new hT) upd_same)
  · have e : i = ds.length := by omega
    subst e
    exact .inl ⟨⟨xs, ka K H' kp, by rw [ra.1]; exact Nat.le_refl _⟩, hd σ H' p⟩
end
end Bx
namespace Bx
open PySem L2
/-- ways that join within an expression: what is known behind it -/
def tCutE (te : TE) : TE := fun σ H Q => ∃ Mid : VK, te σ H Mid ∧ ∀ v H', Mid v H' → Q v H'
theorem pe_cutE {X : Cx} {e : Expr} {te : TE} (h : PE X e te) : PE X e (tCutE te) := by
  refine ⟨fun pins s σ H Q I q => ?_⟩
  obtain ⟨Mid, q1, q2⟩ := q
  exact thn (h.run pins s σ H _ I q1) fun v s1 ⟨x, H1, I1, r1, q3⟩ => ⟨x, H1, I1, r1, q2 x H1 q3⟩
theorem x_cutE {te : TE} {σ : L2.St} {H : Hp} {Q : VK} (Mid : VK) (h : te σ H Mid) (k : ∀ v H', Mid v H' → Q v H') : tCutE te σ H Q := ⟨Mid, h, k⟩
end Bx
namespace Bx
open PySem L2
/-! ### data as the library's: sorted, min, < of nested tuples -/
mutual
def Da.py : Da → PyData
  | .non => .none
  | .bl b => .bool b
  | .int i => .int i
  | .str s => .str s
  | .tup l => .tuple (pyL l)
  | .lst l => .list (pyL l)
def pyL : List Da → List PyData
  | [] => []
  | d :: l => d.py :: pyL l
end
theorem pyL_eq (l : List Da) : pyL l = l.map Da.py := by
  induction l with
  | nil => rfl
  | cons d l ih => rw [pyL, List.map_cons, ih]
theorem py_tup (l : List Da) : (Da.tup l).py = .tuple (l.map Da.py) := by rw [Da.py, pyL_eq]
theorem py_ints (r : List Int) : (Da.tup (r.map Da.int)).py = .tuple (r.map .int) := by
  rw [py_tup, List.map_map]
  rfl
section
variable {ex : List Addr} {H : Hp} {v : V} {d : Da} {K : PySem.W.Frag}
theorem dpAll_of : ∀ {xs : List V} {ds : List Da}, xs.length = ds.length → (∀ (i : Nat) (x : V) (d : Da), xs[i]? = some x → ds[i]? = some d → Dp K H x d.py) → DpAll K H xs (pyL ds)
  | [], [], _, _ => .nil
  | [], _ :: _, h, _ => nomatch h
  | _ :: _, [], h, _ => nomatch h
  | x :: xs, d :: ds, h, q => .cons (q 0 x d rfl rfl) (dpAll_of (Nat.succ.inj h) fun i y e h1 h2 => q (i + 1) y e h1 h2)
theorem Rp.dp (h : Rp ex H v d) : Dp K H v d.py := by
  induction h with
  | non => exact .non
  | bl b => exact .bl b
  | int i => exact .int i
  | str s => exact .str s
  | tup n e l _ ih => exact .tup (SqT.of e) (dpAll_of l ih)
  | lst n e l _ ih => exact .lst (SqL.of e) (dpAll_of l ih)
end
/-- what a value stands for: some data of the layer -/
def Stf (ex : List Addr) (H : Hp) (u : Value) (d : Da) : Prop := ∃ x : V, RelV x u ∧ Rp ex H x d
section
variable {ex : List Addr} {H : Hp}
theorem each_of : ∀ {xs : List V} {us : List Value} {ds : List Da}, Vals xs us → Rps ex H xs ds → PySem.W.EachIs (Stf ex H) us ds
  | [], _, [], r, _ => by cases r; exact .nil
  | [], _, _ :: _, _, h => nomatch h.1
  | _ :: _, _, [], _, h => nomatch h.1
  | x :: xs, _, d :: ds, r, h => by
    cases r with
    | cons r1 r2 => exact .cons ⟨x, r1, h.2 0 x d rfl rfl⟩ (each_of r2 ⟨Nat.succ.inj h.1, fun i y e h1 h2 => h.2 (i + 1) y e h1 h2⟩)
theorem of_each : ∀ {us : List Value} {ds : List Da}, PySem.W.EachIs (Stf ex H) us ds → ∃ xs, Vals xs us ∧ Rps ex H xs ds
  | _, _, .nil => ⟨[], .nil, Rps.nil⟩
  | _, _, .cons ⟨x, r, p⟩ t => by
    obtain ⟨xs, r2, p2⟩ := of_each t
    exact ⟨x :: xs, .cons r r2, Rps.cons p p2⟩
theorem each_get : ∀ {us : List Value} {ds : List Da} (_ : PySem.W.EachIs (Stf ex H) us ds) {i : Nat} {u : Value}, us[i]? = some u → ∃ d, ds[i]? = some d ∧ Stf ex H u d
  | _, _, .nil, _, _, h => by simp at h
  | _, _, .cons p t, 0, _, h => by simp at h; subst h; exact ⟨_, rfl, p⟩
  | _, _, .cons p t, i + 1, u, h => by simpa using each_get t (i := i) (u := u) (by simpa using h)
end
noncomputable def sortD (ds : List Da) : List Da := ds.mergeSort (PySem.W.dataLe false Da.py)
/-- sorted of a list of data that can be compared -/
def rSortD (K : PySem.W.Frag) : List V → Hp → VK → Prop := fun vs H Q => ∃ (ex : List Addr) (v : V) (ds : List Da), vs = [v] ∧ Rp ex H v (.lst ds) ∧ ds.length ≤ 100000 ∧ (∀ d, d ∈ ds → d.py.depth ≤ 50) ∧ PySem.W.AllAlike (ds.map Da.py) ∧ PySem.W.Sortable (ds.map Da.py) ∧ Live ex H ∧
  ∀ v' H', Same H H' → Rp ex H' v' (.lst (sortD ds)) → Q v' H'
def rMinD (K : PySem.W.Frag) : List V → Hp → VK → Prop := fun vs H Q => ∃ (ex : List Addr) (v : V) (d : Da) (ds : List Da), vs = [v] ∧ Rp ex H v (.lst (d :: ds)) ∧ PyData.depthAll ((d :: ds).map Da.py) ≤ 50 ∧ PySem.W.AlikeAll ((d :: ds).map Da.py) ∧
  ∀ y (i : Nat) d', (d :: ds)[i]? = some d' → d'.py = PySem.W.minD d.py (ds.map Da.py) → Rp ex H y d' → Q y H
def rLtD (K : PySem.W.Frag) : R2 := fun x y H Q => ∃ (ex : List Addr) (d e : Da), Rp ex H x d ∧ Rp ex H y e ∧ PySem.W.alike d.py e.py = true ∧ d.py ≠ .none ∧ d.py.depth ≤ 50 ∧ Q (.bl (PySem.W.dataLt d.py e.py)) H
section
variable {X : Cx}
theorem cr_sortD (hu : X.A.units + 64 < cLine) : CallR X (.builtin "sorted") (rSortD X.K) := by
  intro pins s σ H vs us Q I r h
  obtain ⟨ex, v, ds, rfl, hv, hlen, hd, hal, hso, L, q⟩ := h
  obtain ⟨a, xs, rfl, na, e, rx⟩ := hv.lstI
  obtain ⟨its, rv, hl, hz⟩ := I.list (SqL.of e)
  rw [Vals.ref1 r]
  have E := each_of rv rx
  refine PySem.W.sorted_data (enc := Da.py) (R := Stf ex H) hl.isList E (E.mono fun u d ⟨x, hx, p⟩ => Dp.reads I _ _ _ p.dp hx) hal hso (Nat.le_trans hlen (by decide)) (fun b hb => by have := hd b hb; omega) fun out hlo ho => ?_
  obtain ⟨ys, r2, p2⟩ := of_each ho
  obtain ⟨ep, he'⟩ := PyProof.Rows.sortedAll_at s.heap its out.toArray
  have hn := I.hok.fresh (Nat.le_succ s.heap.objs.size)
  have hy : ys.length ≤ sizeLine := by
    rw [r2.length, hlo]
    exact Nat.le_trans hlen (by decide)
  refine ⟨.ref _, upd H (s.heap.objs.size + 1) (.lst ys), I.laid (t' := s.toks) (fun _ _ => PyProof.Rows.sortedAll_old) (Nat.le_succ _) ⟨hy, out, ep, r2, he'⟩, rfl, ?_⟩
  exact q _ _ (Same.new (Same.refl H) hn) (rps_lst (rps_same p2 (Same.new (Same.refl H) hn)) (L.new hn) upd_same)
theorem readsAll_of {pins : List (Addr × Obj)} {σ : L2.St} {H : Hp} {s : Shared} {ex : List Addr} {xs : List V} {us : List Value} {ds : List Da} (I : Inv X pins σ H s) (rv : Vals xs us) (rx : Rps ex H xs ds) : ∃ as, ReadsAll s.heap us (ds.map Da.py) as := by
  rw [← pyL_eq]
  exact Dp.readsAll I _ _ _ (dpAll_of rx.1 fun i x d h1 h2 => (rx.2 i x d h1 h2).dp) rv
theorem cr_minD (hc : X.calm = true) (hu : X.A.units + 64 < cLine) : CallR X (.builtin "min") (rMinD X.K) := by
  intro pins s σ H vs us Q I r h
  obtain ⟨ex, v, d, ds, rfl, hv, hd, hal, q⟩ := h
  obtain ⟨a, xs, rfl, na, e, rx⟩ := hv.lstI
  obtain ⟨its, rv, hl, hz⟩ := I.list (SqL.of e)
  rw [Vals.ref1 r]
  obtain ⟨as, ra⟩ := readsAll_of I rv rx
  refine PySem.W.min_list_data (I.ok.hd hc) hl.isList (x := d.py) (xs := ds.map Da.py) (as := as) ra hal (by have : PyData.depthAll (d.py :: ds.map Da.py) ≤ 50 := hd; omega) fun i u h' tk bs hi hr hk => ?_
  obtain ⟨d', g, x, hx, p⟩ := each_get (each_of rv rx) (by simpa using hi)
  obtain ⟨as2, r2⟩ := Dp.reads I _ _ _ p.dp hx
  have hm : d' ∈ d :: ds := List.mem_of_getElem? g
  have hmd : PySem.W.minD d.py (ds.map Da.py) ∈ (d :: ds).map Da.py := by
    have gen : ∀ (l : List PyData) (x : PyData), PySem.W.minD x l ∈ x :: l := by
      intro l
      induction l with
      | nil => intro x; exact List.mem_cons_self ..
      | cons y l ih =>
        intro x
        show PySem.W.minD (if PySem.W.dataLt y x then y else x) l ∈ _
        have := ih (if PySem.W.dataLt y x then y else x)
        rcases List.mem_cons.mp this with h | h
        · rw [h]
          split
          · exact List.mem_cons_of_mem _ (List.mem_cons_self ..)
          · exact List.mem_cons_self ..
        · exact List.mem_cons_of_mem _ (List.mem_cons_of_mem _ h)
    exact gen _ _
  have e2 : d'.py = PySem.W.minD d.py (ds.map Da.py) := PySem.W.alike_unique _ _ _ _ _ (hal.1 _ (List.mem_map.mpr ⟨d', hm, rfl⟩) _ hmd) (PySem.W.reads_keeps hk r2) hr
  exact ⟨x, H, I.kept hk, hx, q x i d' g e2 p⟩
theorem op_ltD (hu : X.A.units + 64 < cLine) : OpR X (compareOp .Lt) (rLtD X.K) := by
  intro pins s σ H x y v u Q I rx ry h
  obtain ⟨ex, d, e, hd, he, hal, hn, hdp, q⟩ := h
  obtain ⟨as, r1⟩ := Dp.reads I _ x v hd.dp rx
  obtain ⟨bs, r2⟩ := Dp.reads I _ y u he.dp ry
  exact PySem.W.lt_data r1 r2 hal hn (by have := Nat.min_le_left d.py.depth e.py.depth; omega) ⟨.bl _, H, I, rfl, q⟩
end
section
variable {H : Hp} {Q : VK} {K : PySem.W.Frag} {ex : List Addr} {v x y : V}
theorem x_sortD {ds : List Da} (h : Rp ex H v (.lst ds)) (hl : ds.length ≤ 100000) (hd : ∀ d, d ∈ ds → d.py.depth ≤ 50) (ha : PySem.W.AllAlike (ds.map Da.py)) (hs : PySem.W.Sortable (ds.map Da.py)) (L : Live ex H) (q : ∀ v' H', Same H H' → Rp ex H' v' (.lst (sortD ds)) → Q v' H') : rSortD K [v] H Q := ⟨ex, v, ds, rfl, h, hl, hd, ha, hs, L, q⟩
theorem x_minD {d : Da} {ds : List Da} (h : Rp ex H v (.lst (d :: ds))) (hd : PyData.depthAll ((d :: ds).map Da.py) ≤ 50) (ha : PySem.W.AlikeAll ((d :: ds).map Da.py)) (q : ∀ y (i : Nat) d', (d :: ds)[i]? = some d' → d'.py = PySem.W.minD d.py (ds.map Da.py) → Rp ex H y d' → Q y H) : rMinD K [v] H Q := ⟨ex, v, d, ds, rfl, h, hd, ha, q⟩
theorem depth_intsT (r : List Int) : (Da.tup (r.map Da.int)).py.depth = 1 := by
  rw [py_ints, PyData.depth, PySem.W.depth_ints]
theorem alike_intsT (r r' : List Int) : PySem.W.alike (Da.tup (r.map Da.int)).py (Da.tup (r'.map Da.int)).py = true := by
  rw [py_ints, py_ints, PySem.W.alike, PySem.W.alike_ints]
theorem lt_intsT (r r' : List Int) : PySem.W.dataLt (Da.tup (r.map Da.int)).py (Da.tup (r'.map Da.int)).py = decide (r < r') := by
  rw [py_ints, py_ints, PySem.W.dataLt_tuple]
  exact PySem.W.dataLt_ints r r'
/-- tuples of ints compared -/
theorem x_ltI {r r' : List Int} (h1 : Rp ex H x (.tup (r.map Da.int))) (h2 : Rp ex H y (.tup (r'.map Da.int))) (q : Q (.bl (decide (r < r'))) H) : rLtD K x y H Q :=
  ⟨ex, _, _, h1, h2, alike_intsT r r', by rw [py_ints]; exact (fun z => (nomatch z)), by rw [depth_intsT]; decide, by rw [lt_intsT]; exact q⟩
def minI (r : List Int) (rs : List (List Int)) : List Int := rs.foldl (fun a y => if y < a then y else a) r
theorem minD_intsT : ∀ (rs : List (List Int)) (r : List Int), PySem.W.minD (Da.tup (r.map Da.int)).py ((rs.map fun s => Da.tup (s.map Da.int)).map Da.py) = (Da.tup ((minI r rs).map Da.int)).py
  | [], r => rfl
  | s :: rs, r => by
    show PySem.W.minD (if PySem.W.dataLt (Da.tup (s.map Da.int)).py (Da.tup (r.map Da.int)).py then (Da.tup (s.map Da.int)).py else (Da.tup (r.map Da.int)).py) _ = (Da.tup ((minI (if s < r then s else r) rs).map Da.int)).py
    rw [lt_intsT, ← minD_intsT rs]
    by_cases c : s < r
    · rw [decide_eq_true c, if_pos rfl, if_pos c]
    · rw [decide_eq_false c, if_neg (by decide), if_neg c]
theorem minI_mem : ∀ (rs : List (List Int)) (r : List Int), minI r rs ∈ r :: rs
  | [], r => List.mem_cons_self ..
  | s :: rs, r => by
    show minI (if s < r then s else r) rs ∈ _
    rcases List.mem_cons.mp (minI_mem rs (if s < r then s else r)) with h | h
    · rw [h]
      split
      · exact List.mem_cons_of_mem _ (List.mem_cons_self ..)
      · exact List.mem_cons_self ..
    · exact List.mem_cons_of_mem _ (List.mem_cons_of_mem _ h)
theorem ints_inj : ∀ {r r' : List Int}, r.map PyData.int = r'.map PyData.int → r = r'
  | [], [], _ => rfl
  | [], _ :: _, h => nomatch h
  | _ :: _, [], h => nomatch h
  | a :: r, b :: r', h => by
    obtain ⟨h1, h2⟩ := List.cons.inj h
    rw [PyData.int.inj h1, ints_inj h2]
/-- min of a row of tuples of ints -/
theorem x_minI {r : List Int} {rs : List (List Int)} (h : Rp ex H v (.lst ((r :: rs).map fun s => Da.tup (s.map Da.int)))) (q : ∀ y, Rp ex H y (.tup ((minI r rs).map Da.int)) → Q y H) : rMinD K [v] H Q := by
  refine x_minD (d := .tup (r.map Da.int)) (ds := rs.map fun s => Da.tup (s.map Da.int)) h ?_ ⟨?_, ?_⟩ fun y i d' g e p => ?_
  · have gen : ∀ l : List (List Int), PyData.depthAll ((l.map fun s => Da.tup (s.map Da.int)).map Da.py) ≤ 50 := by
      intro l
      induction l with
      | nil => decide
      | cons s l ih =>
        rw [List.map_cons, List.map_cons, PyData.depthAll, depth_intsT]
        omega
    exact gen (r :: rs)
  · intro a ha b hb
    obtain ⟨a', ha', rfl⟩ := List.mem_map.mp ha
    obtain ⟨b', hb', rfl⟩ := List.mem_map.mp hb
    obtain ⟨s, _, rfl⟩ := List.mem_map.mp (show a' ∈ (r :: rs).map (fun s => Da.tup (s.map Da.int)) from ha')
    obtain ⟨s', _, rfl⟩ := List.mem_map.mp (show b' ∈ (r :: rs).map (fun s => Da.tup (s.map Da.int)) from hb')
    exact alike_intsT s s'
  · intro a ha z
    obtain ⟨a', ha', rfl⟩ := List.mem_map.mp ha
    obtain ⟨s, _, rfl⟩ := List.mem_map.mp (show a' ∈ (r :: rs).map (fun s => Da.tup (s.map Da.int)) from ha')
    rw [py_ints] at z
    cases z
  · rw [minD_intsT] at e
    obtain ⟨s, _, rfl⟩ := List.mem_map.mp (show d' ∈ (r :: rs).map (fun s => Da.tup (s.map Da.int)) from List.mem_of_getElem? g)
    rw [py_ints, py_ints] at e
    rw [ints_inj (PyData.tuple.inj e)] at p
    exact q y p
end
end Bx
namespace Bx
open PySem L2
/-- nothing is promised -/
def spV : Sp := fun _ _ _ _ => False
def rKd (K : PySem.W.Frag) (d : Addr) : R2 := fun x y H Q => ∃ (z : Str) (u0 : Value) (v0 : V), x = .ref d ∧ y = .str z ∧ PySem.W.nsIn K d z = some (some u0) ∧ RelV v0 u0 ∧ Q v0 H
section
variable {X : Cx} {d : Addr}
/-- D[key], D a dict of the program's top with text keys -/
theorem ix_kd (D : ∃ es n, KDict X.K X.w d es n) : IxR X (rKd X.K d) := by
  obtain ⟨es, n, D⟩ := D
  intro value slice pins s σ H x y v u Q I rx ry h hs
  obtain ⟨z, u0, v0, rfl, rfl, e, r, q⟩ := h
  have hT := kd_type D I
  cases rx
  obtain ⟨t, rfl⟩ := ry
  exact PyProof.Rows.tail_any hT PySem.F.slot_dict_getitem.lookup (wpAny_getItem_of (PySem.strKind_is X.prog X.w z t) (PySem.W.mapOf_K (prog := X.prog) I.kIn D.at_ D.lit) (PySem.W.find_K D.at_ e) ⟨v0, H, I.tok _, r, q⟩) hs
theorem pe_callV {i k : Nat} {V0 : Addr} {y x : Str} {ps : List Str} {sp : Sp} {e : Expr} {es : List Expr} {t : TA} {p pos : Pos} (O : Ok X.prog X.w X.K X.mg X.base k y ps sp) (m : X.mg y = some (.ref V0)) (hr : Room k X.A) (hN : X.N[i]? = some x) (hv : Vis X.env.scope x) (ha : PA X (e :: es) t)
    (hdb : (x == ("__debug__" : Str)) = false := by decide) (hcd : (x == ("__classdict__" : Str)) = false := by decide)
    (he : starEach (e :: es) X.env = (false, eval e X.env) :: starEach es X.env := by rfl) (hpl : (backTo pos (starEach es X.env)).any (·.1) = false := by rfl) : PE X (.Call (.Name x p) (e :: es) [] pos) (tCallL i V0 sp [] E0 t) := by
  obtain ⟨f, fd, F, m', hk, hb⟩ := O.ex
  rw [m] at m'
  cases m'
  exact pe_callL F hr hN hv hk hb .nil pass0 ha hdb hcd he hpl
theorem x_callL {i : Nat} {f : Addr} {sp : Sp} {t : TA} {σ : L2.St} {H : Hp} {Q : VK} (h : σ[i]? = some (some (.ref f))) (q : t σ H fun vs H1 => sp vs H1 Q E0) : tCallL i f sp [] E0 t σ H Q := by
  refine ⟨h, ?_⟩
  have e : (fun (vs : List V) (H1 : Hp) => sp (vs ++ []) H1 Q E0) = fun vs H1 => sp vs H1 Q E0 := by
    funext vs H1
    rw [List.append_nil]
  rw [e]
  exact q
theorem x_kd {K : PySem.W.Frag} {z : Str} {f : Addr} {H : Hp} {Q : VK} (e : PySem.W.nsIn K d z = some (some (.ref f))) (q : Q (.ref f) H) : rKd K d (.ref d) (.str z) H Q := ⟨z, .ref f, .ref f, rfl, rfl, e, rfl, q⟩
end
end Bx
namespace Bx
open PySem L2
section
variable {H : Hp} {Q : VK} {K : PySem.W.Frag} {v u : V} {ex : List Addr} {d : Da} {ds : List Da} {σ : L2.St} {vs : List Nat} {g : TG} {tt : TT} {tx : TE} {m : Nat}
/-- a comprehension with a test: what is kept -/
theorem raw_filt {J : It} {eo : List Addr} (Iv : Hp → Prop) (sub : ∀ a, a ∈ ex → a ∈ eo) {fo : List (Option Da)} (hf : fo.length = m) (hm : m < 100000) (I0 : Iv H) (hL : ∀ H', Iv H' → Live eo H') (hI : ∀ H' D o, H D = none → Iv H' → Iv (upd H' D o))
    (hstop : ∀ H', Kp ex H H' → J.stop m H') (hgo : ∀ i H', i < m → Kp ex H H' → J.go i H')
    (hs : ∀ D (i : Nat) x H1 H' (N : V → Hp → Prop) (Nx : Hp → Prop), H D = none → i < m → Kp ex H H1 → Live (D :: eo) H1 → Iv H1 → J.yld i H1 x H' → (∀ y H4 f, fo[i]? = some (some f) → Kp ex H1 H4 → Iv H4 → Rp (D :: eo) H4 y f → N y H4) → (∀ H4, fo[i]? = some none → Kp ex H1 H4 → Iv H4 → Nx H4) →
      g x (wipe σ vs) H' fun σ2 H2 => wipe σ2 vs = wipe σ vs ∧ tt σ2 H2 fun b H3 => if b = true then tx σ2 H3 N else Nx H3)
    (hd : ∀ v' H', Kp ex H H' → Iv H' → Rp eo H' v' (.lst (fo.filterMap id)) → Q v' H') : rawC J g tt tx vs σ H Q := by
  intro D hD
  have nD : D ∉ eo := (hL H I0).new hD
  have nE : D ∉ ex := fun z => nD (sub _ z)
  refine ⟨fun i k H' => k = m - i ∧ i ≤ m ∧ Kp ex H H' ∧ Iv H' ∧ ∃ ys, H' D = some (.lst ys) ∧ Rps (D :: eo) H' ys ((fo.take i).filterMap id), ⟨m, rfl, Nat.zero_le _, Kp.refl.new hD, hI _ _ _ hD I0, [], upd_same, by rw [List.take_zero]; exact Rps.nil⟩, ?_⟩
  rintro i k H' ⟨rfl, hi, kp, iv, ys, ey, ry⟩
  by_cases c : i < m
  · refine .inr ⟨hgo i H' c kp, fun H4 => i + 1 ≤ m ∧ Kp ex H H4 ∧ Iv H4 ∧ ∃ ys, H4 D = some (.lst ys) ∧ Rps (D :: eo) H4 ys ((fo.take (i + 1)).filterMap id), fun H4 q => ⟨m - (i + 1), by omega, rfl, q⟩, fun x H1 y => ?_⟩
    have tk : ∀ o, fo[i]? = some o → (fo.take (i + 1)).filterMap id = (fo.take i).filterMap id ++ (match o with | none => [] | some f => [f]) := fun o e => by
      rw [List.take_succ, e, List.filterMap_append]
      cases o <;> rfl
    have ly : ys.length ≤ i := by
      rw [ry.1]
      exact Nat.le_trans (List.length_filterMap_le _ _) (by rw [List.length_take]; omega)
    refine hs D i x H' H1 _ _ hD c kp ((hL _ iv).cons ey) iv y (fun z H4 f ef k4 iv4 r4 => ⟨ys, k4 _ _ nE ey, szl (by omega), c, (kp.trans k4).own hD, hI _ _ _ hD iv4, ys ++ [z], upd_same, ?_⟩) (fun H4 ef k4 iv4 => ⟨c, kp.trans k4, iv4, ys, k4 _ _ nE ey, ?_⟩)
    · rw [tk _ ef]
      exact rps_snoc (rps_kp ry (((k4.mono sub).more).mut (List.mem_cons_self ..))) (r4.kp (Kp.refl.mut (List.mem_cons_self ..)))
    · rw [tk _ ef, List.append_nil]
      exact rps_kp ry ((k4.mono sub).more)
  · have e : i = m := by omega
    subst e
    rw [List.take_of_length_le (by omega)] at ry
    exact .inl ⟨hstop H' kp, hd (.ref D) H' kp iv (rps_lst (rps_tail ry) nD ey)⟩
theorem x_filS (Iv : Hp → Prop) (h : Rp ex H v d) (s : d.seq ds) {fo : List (Option Da)} (hf : fo.length = ds.length) (hm : ds.length < 100000) (I0 : Iv H) (hL : ∀ H', Iv H' → Live ex H') (hI : ∀ H' D o, H D = none → Iv H' → Iv (upd H' D o))
    (hs : ∀ D (i : Nat) x e H1 (N : V → Hp → Prop) (Nx : Hp → Prop), H D = none → ds[i]? = some e → Kp ex H H1 → Live (D :: ex) H1 → Iv H1 → Rp (D :: ex) H1 x e → (∀ y H4 f, fo[i]? = some (some f) → Kp ex H1 H4 → Iv H4 → Rp (D :: ex) H4 y f → N y H4) → (∀ H4, fo[i]? = some none → Kp ex H1 H4 → Iv H4 → Nx H4) →
      g x (wipe σ vs) H1 fun σ2 H2 => wipe σ2 vs = wipe σ vs ∧ tt σ2 H2 fun b H3 => if b = true then tx σ2 H3 N else Nx H3)
    (hd : ∀ v' H', Kp ex H H' → Iv H' → Rp ex H' v' (.lst (fo.filterMap id)) → Q v' H') :
    ∃ a', v = .ref a' ∧ (((∃ xs, SqL K H a' xs) ∧ rawC (Itl K a') g tt tx vs σ H Q) ∨ ((∃ xs, SqT K H a' xs) ∧ rawC (Itt K a') g tt tx vs σ H Q)) := by
  obtain ⟨a, xs, rfl, n, e, r⟩ := h.seqI s
  rcases e with e | e
  · refine ⟨a, rfl, .inr ⟨⟨xs, SqT.of e⟩, raw_filt Iv (fun _ z => z) hf hm I0 hL hI (fun H' kp => ⟨xs, SqT.of (kp _ _ n e), by rw [r.1]; exact Nat.le_refl _⟩) (fun i H' c kp => ⟨xs, xs[i]'(by rw [r.1]; exact c), SqT.of (kp _ _ n e), List.getElem?_eq_getElem _⟩) (fun D i x H1 H' N Nx hD c kp L iv y hN hX => ?_) hd⟩⟩
    obtain ⟨rfl, hx⟩ := y
    obtain ⟨e', ee, re⟩ := rps_at r (hx xs (SqT.of (kp _ _ n e)))
    exact hs D i x e' _ N Nx hD ee kp L iv ((re.grow hD).kp kp.more) hN hX
  · refine ⟨a, rfl, .inl ⟨⟨xs, SqL.of e⟩, raw_filt Iv (fun _ z => z) hf hm I0 hL hI (fun H' kp => ⟨xs, SqL.of (kp _ _ n e), by rw [r.1]; exact Nat.le_refl _⟩) (fun i H' c kp => ⟨xs, xs[i]'(by rw [r.1]; exact c), SqL.of (kp _ _ n e), List.getElem?_eq_getElem _⟩) (fun D i x H1 H' N Nx hD c kp L iv y hN hX => ?_) hd⟩⟩
    obtain ⟨rfl, hx⟩ := y
    obtain ⟨e', ee, re⟩ := rps_at r (hx xs (SqL.of (kp _ _ n e)))
    exact hs D i x e' _ N Nx hD ee kp L iv ((re.grow hD).kp kp.more) hN hX
/-- what a filter keeps, by a test on what the row stands for -/
def keepO {α : Type} (p : α → Bool) (F : α → Da) (l : List α) : List (Option Da) := l.map fun a => if p a = true then some (F a) else none
theorem keepO_len {α : Type} (p : α → Bool) (F : α → Da) (l : List α) : (keepO p F l).length = l.length := by unfold keepO; rw [List.length_map]
theorem keepO_fm {α : Type} (p : α → Bool) (F : α → Da) : ∀ l : List α, (keepO p F l).filterMap id = (l.filter p).map F
  | [] => rfl
  | a :: l => by
    show ((if p a = true then some (F a) else none) :: keepO p F l).filterMap id = _
    by_cases c : p a = true
    · rw [if_pos c, List.filter_cons_of_pos c, List.map_cons, ← keepO_fm p F l]
      rfl
    · rw [if_neg c, List.filter_cons_of_neg c, ← keepO_fm p F l]
      rfl
theorem keepO_at {α : Type} {p : α → Bool} {F : α → Da} {l : List α} {i : Nat} {a : α} (h : l[i]? = some a) : (keepO p F l)[i]? = some (if p a = true then some (F a) else none) := by
  unfold keepO
  rw [List.getElem?_map, h]
  rfl
/-! ### sorted -/
theorem sortD_perm (ds : List Da) : (sortD ds).Perm ds := List.mergeSort_perm ds _
theorem sortD_len (ds : List Da) : (sortD ds).length = ds.length := (sortD_perm ds).length_eq
theorem le_pw {α : Type} (k : α → PyData) (l : List α) : (l.mergeSort (PySem.W.dataLe false k)).Pairwise fun a b => PySem.W.dataLt (k b) (k a) = false := by
  refine (PySem.W.sort_pairwise (PySem.W.sortLe_total (PyProof.Rows.listOrd PyProof.Rows.itemOrd) false fun b => PySem.W.keyToks (k b)) l).imp fun {a b} h => ?_
  have h2 : (!PySem.W.dataLt (k b) (k a)) = true := h
  simpa using h2
theorem sort_map {α : Type} (F : α → Da) (l : List α) : sortD (l.map F) = (l.mergeSort (PySem.W.dataLe false fun a => (F a).py)).map F :=
  (List.map_mergeSort (f := F) (r := PySem.W.dataLe false fun a => (F a).py) (s := PySem.W.dataLe false Da.py) (l := l) fun a _ b _ => rfl).symm
theorem lt_head {a b : Int} {r r' : List PyData} (h : a < b) : PySem.W.dataLt (.tuple (.int a :: r)) (.tuple (.int b :: r')) = true := by
  rw [PySem.W.dataLt_tuple, PySem.W.dataLt_cons (by simp [PySem.W.alike])]
  have e : PyData.eqv (.int a) (.int b) = false := by
    simp [PyData.eqv]
    omega
  rw [e, if_neg (by decide), PySem.W.dataLt_int, decide_eq_true h]
theorem ints_sorted_eq {a b : List Int} (h : a.Perm b) (h1 : a.Pairwise (· ≤ ·)) (h2 : b.Pairwise (· ≤ ·)) : a = b :=
  List.Perm.eq_of_pairwise (le := (· ≤ ·)) (fun x y _ _ p q => Int.le_antisymm p q) h1 h2 h
theorem x_sortI {ns : List Int} (h : Rp ex H v (.lst (ns.map Da.int))) (L : Live ex H) (q : ∀ v' H' (ns' : List Int), Same H H' → ns'.Perm ns → ns'.Pairwise (· ≤ ·) → Rp ex H' v' (.lst (ns'.map Da.int)) → Q v' H') : rSortedI K [v] H Q := by
  obtain ⟨a, xs, rfl, na, e, r⟩ := h.lstI
  rw [ints_of r] at e
  refine ⟨a, ns, rfl, SqL.of e, fun ns' p hp hs hn => q _ _ ns' (Same.new (Same.refl H) hn) hp hs ?_⟩
  exact rps_lst (rps_ints ns') (L.new hn) upd_same
end
end Bx
namespace Bx
open PySem L2 PyProof.Rows
/-! ### sorted of a tuple of ints -/
def rSortedIT (K : PySem.W.Frag) : List V → Hp → VK → Prop := fun vs H Q => ∃ (a : Addr) (ns : List Int), vs = [V.ref a] ∧ SqT K H a (ns.map V.int) ∧
  ∀ (ns' : List Int) (p : Addr), ns'.Perm ns → ns'.Pairwise (· ≤ ·) → H p = none → Q (.ref p) (upd H p (.lst (ns'.map V.int)))
section
variable {X : Cx}
theorem cr_sortedIT : CallR X (.builtin "sorted") (rSortedIT X.K) := by
  intro pins s σ H vs us Q I r h
  obtain ⟨a, ns, rfl, hs, q⟩ := h
  obtain ⟨its, rv, ht, hz⟩ := I.tuple hs
  rw [Vals.ref1 r]
  have hi := rv.ints
  obtain ⟨o, ho, hc, n, hd⟩ := ht
  have hz2 : its.length ≤ sizeLine := by rw [← rv.length]; exact hz
  refine Calls.call_function_entry kind_sorted plain_sorted entry_sorted (args_sorted1 _) ?_
  unfold Builtin.«sorted»
  refine wpAny_bind (m := checkCount "sorted" 1 1 _) (wpAny_pure ?_)
  refine wpAny_bind (wpAny_collect_seq a (.inr rfl) ho hc hd (fun h1 keep => ?_) (by rw [List.size_toArray]; exact hz2))
  refine wpAny_bind (wpAny_newList ?_ (by simpa using hz2))
  have I1 : Inv X pins σ H { s with heap := h1 } := I.kept (t' := s.toks) keep
  have hoL : (h1.push (seqObj "list" its.toArray 0)).get? h1.objs.size = some (seqObj "list" its.toArray 0) := Heap.get?_push_size _ rfl
  show wpAny _ _ _ _ _ { s with heap := h1.push (seqObj "list" its.toArray 0) }
  refine wpAny_bind (wpAny_holding (wpAny_call_entry slot_list_sort ⟨_, hoL, rfl⟩ entry_list_sort (SrtO.list_sort_ord SrtO.swo_int hoL hz2 (fun h2 => SrtO.ints_sortable hi h2) fun out k1 k2 => ⟨_, rfl, ?_⟩) (args_list_sort _)))
  refine wpAny_pure ⟨_, rfl, ?_⟩
  obtain ⟨j1, j2, j3⟩ := SrtO.ints_out hi k1 k2
  obtain ⟨ep, he⟩ := sortedHeap_at (vs := its) (out := out.toArray) hoL
  have hlen : ((out.map SrtO.iv).map V.int).length ≤ sizeLine := by
    rw [List.length_map, j2.length_eq]
    rw [List.length_map] at hz
    exact hz
  have hn : H h1.objs.size = none := I1.hok.fresh (Nat.le_refl _)
  refine ⟨.ref _, upd H h1.objs.size (.lst ((out.map SrtO.iv).map V.int)), I1.laid (t' := s.toks) (fun b u hb => ?_) (Nat.le_refl _) ⟨hlen, out, ep, vals_of_ints j1, he⟩, rfl, q _ _ j2 j3 hn⟩
  have hlt := Heap.lt_size hb
  rw [sortedHeap_old (Nat.ne_of_lt hlt) (by rw [size_push']; exact Nat.lt_succ_of_lt hlt)]
  exact Heap.get?_push_of_some _ hb
end
section
variable {H : Hp} {Q : VK} {K : PySem.W.Frag} {v : V} {ex : List Addr}
theorem x_sortIT {ns : List Int} (h : Rp ex H v (.tup (ns.map Da.int))) (L : Live ex H) (q : ∀ v' H' (ns' : List Int), Same H H' → ns'.Perm ns → ns'.Pairwise (· ≤ ·) → Rp ex H' v' (.lst (ns'.map Da.int)) → Q v' H') : rSortedIT K [v] H Q := by
  obtain ⟨a, xs, rfl, na, e, r⟩ := h.tupI
  rw [ints_of r] at e
  refine ⟨a, ns, rfl, SqT.of e, fun ns' p hp hs hn => q _ _ ns' (Same.new (Same.refl H) hn) hp hs ?_⟩
  exact rps_lst (rps_ints ns') (L.new hn) upd_same
end
end Bx
namespace Bx
open PySem L2
/-! ### zip of three tuples -/
def Itz3 (K : PySem.W.Frag) (a b c : Addr) : It where
  go := fun i H => ∃ (xs ys zs : List V) (x y z : V), SqT K H a xs ∧ SqT K H b ys ∧ SqT K H c zs ∧ xs[i]? = some x ∧ ys[i]? = some y ∧ zs[i]? = some z
  yld := fun i H v H' => ∃ T x y z, v = .ref T ∧ H T = none ∧ H' = upd H T (.tup [x, y, z]) ∧ (∀ xs, SqT K H a xs → xs[i]? = some x) ∧ (∀ ys, SqT K H b ys → ys[i]? = some y) ∧ ∀ zs, SqT K H c zs → zs[i]? = some z
  stop := fun i H => ∃ xs ys zs : List V, SqT K H a xs ∧ SqT K H b ys ∧ SqT K H c zs ∧ xs.length = i ∧ ys.length = i ∧ zs.length = i
def zT3 (a b c zp Ti To ia ib ic : Addr) (i : Nat) (h : Heap) : Prop := IsZip h zp Ti To .none ∧ IsTupOf3 h Ti (.ref ia) (.ref ib) (.ref ic) ∧ (∃ x y z, IsTupOf3 h To x y z) ∧ h.IsTupleIter ia a i ∧ h.IsTupleIter ib b i ∧ h.IsTupleIter ic c i
theorem mem6 {c zp Ti To ia ib ic : Addr} (h : c ∈ [zp, Ti, To, ia, ib, ic]) : c = zp ∨ c = Ti ∨ c = To ∨ c = ia ∨ c = ib ∨ c = ic := by simpa using h
theorem sub6 {d zp Ti To ia ib ic : Addr} (h : d ∈ [zp, To, ia, ib, ic]) : d ∈ [zp, Ti, To, ia, ib, ic] := (List.mem_cons.mp h).elim (fun e => e ▸ List.mem_cons_self ..) fun h => List.mem_cons_of_mem _ (List.mem_cons_of_mem _ h)
theorem ti_get {h : Heap} {i l : Addr} {k : Nat} (r : h.IsTupleIter i l k) : ∃ o, h.get? i = some o ∧ (∀ v, o.data ≠ .cell v) ∧ ∀ h' : Heap, h'.get? i = some o → h'.IsTupleIter i l k := by
  obtain ⟨o, e, c, d⟩ := r
  exact ⟨o, e, fun v q => (by rw [d] at q; cases q), fun _ e' => ⟨o, e', c, d⟩⟩
theorem ti_to {h h' : Heap} {i l : Addr} {n : Nat} (r : h.IsTupleIter i l n) (k : ∀ o, h.get? i = some o → h'.get? i = some o) : h'.IsTupleIter i l n :=
  let ⟨o, e, _, f⟩ := ti_get r
  f h' (k o e)
theorem turn_z3 {P : Program} {w : World} {K : PySem.W.Frag} {elts : List Expr} {kk : Nat} {tpos : Pos} {a b c zp Ti To ia ib ic : Addr} (D : ZipSep3 zp Ti To ia ib ic [ia, a] [ib, b] [ic, c]) (na : a ≠ ia) (nb : b ≠ ib) (nc : c ≠ ic) :
    Turn P w K (.Tuple elts kk tpos) (Itz3 K a b c) [zp, Ti, To, ia, ib, ic] zp (zT3 a b c zp Ti To ia ib ic) where
  mem := by simp
  obj := fun i h ⟨Z, P, ⟨x, y, z, O⟩, ra, rb, rc⟩ d hd => by
    obtain ⟨oa, ea, da, _⟩ := ti_get ra
    obtain ⟨ob, eb, db, _⟩ := ti_get rb
    obtain ⟨oc, ec, dc, _⟩ := ti_get rc
    rcases mem6 hd with q | q | q | q | q | q <;> rw [q]
    · exact ⟨_, Z, fun _ z => nomatch z⟩
    · exact ⟨_, P, fun _ z => nomatch z⟩
    · exact ⟨_, O, fun _ z => nomatch z⟩
    · exact ⟨oa, ea, da⟩
    · exact ⟨ob, eb, db⟩
    · exact ⟨oc, ec, dc⟩
  keep := fun i h h' ⟨Z, P, ⟨x, y, z, O⟩, ra, rb, rc⟩ k => ⟨k zp (by simp) _ Z, k Ti (by simp) _ P, ⟨x, y, z, k To (by simp) _ O⟩, ti_to ra fun o e => k ia (by simp) o e, ti_to rb fun o e => k ib (by simp) o e, ti_to rc fun o e => k ic (by simp) o e⟩
  item := by
    intro X hP hw hK hc i pins s σ H E I hf ⟨Z, P, ⟨x0, y0, z0, O⟩, ra, rb, rc⟩ ⟨xs, ys, zs, x, y, z, qa, qb, qc, ex, ey, ez⟩
    subst hP hw hK
    obtain ⟨its, rv, pa, _⟩ := I.tuple qa
    obtain ⟨its', rv', pb, _⟩ := I.tuple qb
    obtain ⟨its2, rv2, pc, _⟩ := I.tuple qc
    obtain ⟨v, ev, rx⟩ := rv.get ex
    obtain ⟨v', ev', ry⟩ := rv'.get ey
    obtain ⟨v2, ev2, rz⟩ := rv2.get ez
    have hh : X.A.in1.handled = none := I.ok.hd hc
    have W := GoesN.zip3 (elts := elts) (x1 := kk) (pos := tpos) D (Draws.tuple (prog := X.prog) (w := X.w) hh ia a na its.toArray) (Draws.tuple hh ib b nb its'.toArray) (Draws.tuple hh ic c nc its2.toArray)
    have l1 := (List.getElem?_eq_some_iff.mp ev).1
    have l2 := (List.getElem?_eq_some_iff.mp ev').1
    have l3 := (List.getElem?_eq_some_iff.mp ev2).1
    have hlt : ∀ d, d ∈ [zp, Ti, To, ia, ib, ic] → d < s.heap.objs.size := fun d hd => by
      obtain ⟨oa, ea, _⟩ := ti_get ra
      obtain ⟨ob, eb, _⟩ := ti_get rb
      obtain ⟨oc, ec, _⟩ := ti_get rc
      rcases mem6 hd with q | q | q | q | q | q <;> rw [q]
      · exact Heap.lt_size Z
      · exact Heap.lt_size P
      · exact Heap.lt_size O
      · exact Heap.lt_size ea
      · exact Heap.lt_size eb
      · exact Heap.lt_size ec
    refine W.goes i s (fun u s2 => ∃ x H', Inv X pins σ H' s2 ∧ RelV x u ∧ (Itz3 X.K a b c).yld i H x H' ∧ zT3 a b c zp Ti To ia ib ic (i + 1) s2.heap ∧ ∀ b ∈ [zp, Ti, To, ia, ib, ic], H' b = none) E (by simp only [List.size_toArray]; omega) ⟨Z, P, ⟨x0, y0, z0, O⟩, ⟨ra, pa⟩, ⟨rb, pb⟩, ⟨rc, pc⟩⟩ ?_
    rintro u h' tk ⟨T, x', y', z', rfl, hT, px, py, pz, hI⟩ ⟨Z', P', O', ⟨ra', _⟩, ⟨rb', _⟩, ⟨rc', _⟩⟩ k _
    have ex' : x' = v := by
      have := px
      simp only [List.getElem?_toArray] at this
      rw [ev] at this
      exact (Option.some.inj this).symm
    have ey' : y' = v' := by
      have := py
      simp only [List.getElem?_toArray] at this
      rw [ev'] at this
      exact (Option.some.inj this).symm
    have ez' : z' = v2 := by
      have := pz
      simp only [List.getElem?_toArray] at this
      rw [ev2] at this
      exact (Option.some.inj this).symm
    subst ex' ey' ez'
    have new : ObjOk X.prog X.w (upd H T (.tup [x, y, z])) h' T (.tup [x, y, z]) := ⟨(by decide : 3 ≤ sizeLine), [x', y', z'], .cons rx (.cons ry (.cons rz .nil)), hI⟩
    have kk : ∀ d o, d ∉ [zp, Ti, To, ia, ib, ic] → s.heap.get? d = some o → h'.get? d = some o := fun d o nd e => k d o (fun m => nd (sub6 m)) e
    have I1 : Inv X pins σ (upd H T (.tup [x, y, z])) { s with heap := h', toks := tk } := I.turnedNew (t' := tk) (ch := [zp, Ti, To, ia, ib, ic]) kk hf hT new
    refine ⟨.ref T, _, I1, rfl, ⟨T, x, y, z, rfl, I.hok.fresh hT, rfl, fun l hl => ?_, fun l hl => ?_, fun l hl => ?_⟩, ⟨Z', P', O', ra', rb', rc'⟩, fun d hd => ?_⟩
    · rw [I.tuple_inj hl qa]; exact ex
    · rw [I.tuple_inj hl qb]; exact ey
    · rw [I.tuple_inj hl qc]; exact ez
    · rw [upd_ne (Nat.ne_of_lt (Nat.lt_of_lt_of_le (hlt d hd) hT))]
      exact (hf d hd).1
  done := by
    intro X hP hw hK hc i pins s σ H E I hf ⟨Z, P, ⟨x0, y0, z0, O⟩, ra, rb, rc⟩ ⟨xs, ys, zs, qa, qb, qc, e1, e2, e3⟩
    subst hP hw hK
    obtain ⟨its, rv, pa, _⟩ := I.tuple qa
    obtain ⟨its', rv', pb, _⟩ := I.tuple qb
    obtain ⟨its2, rv2, pc, _⟩ := I.tuple qc
    have l1 := rv.length
    have l2 := rv'.length
    have l3 := rv2.length
    have hh : X.A.in1.handled = none := I.ok.hd hc
    have W := GoesN.zip3 (elts := elts) (x1 := kk) (pos := tpos) D (Draws.tuple (prog := X.prog) (w := X.w) hh ia a na its.toArray) (Draws.tuple hh ib b nb its'.toArray) (Draws.tuple hh ic c nc its2.toArray)
    have em : min (min its.toArray.size its'.toArray.size) its2.toArray.size = i := by simp only [List.size_toArray]; omega
    rw [em] at W
    refine W.stops s _ E ⟨Z, P, ⟨x0, y0, z0, O⟩, ⟨ra, pa⟩, ⟨rb, pb⟩, ⟨rc, pc⟩⟩ fun h' tk k _ => I.turnedL (t' := tk) (ch := [zp, Ti, To, ia, ib, ic]) (fun d o nd e => k d o (fun m => nd (sub6 m)) e) hf
  self := fun A i s Q E st h => wpAny_pyIter_zip st.1 h
/-- zip(a, b, c) walked -/
def iZ3 (K : PySem.W.Frag) (ta : TA) : TI := fun σ H R => ta σ H fun vs H1 => ∃ a b c xs ys zs, vs = [.ref a, .ref b, .ref c] ∧ SqT K H1 a xs ∧ SqT K H1 b ys ∧ SqT K H1 c zs ∧ R (Itz3 K a b c) H1
theorem pi_z3 {X : Cx} {e e2 e3 : Expr} {ta : TA} {p pos tpos : Pos} {elts : List Expr} {kk : Nat} (hg : Gl X "zip") (hm : X.mg "zip" = none) (ha : PA X [e, e2, e3] ta)
    (hs : starEach [e, e2, e3] X.env = (false, eval e X.env) :: starEach [e2, e3] X.env := by rfl) (hpl : (backTo pos (starEach [e2, e3] X.env)).any (·.1) = false := by rfl) :
    PI X (.Tuple elts kk tpos) (.Call (.Name "zip" p) [e, e2, e3] [] pos) (iZ3 X.K ta) := by
  refine ⟨fun pins s σ H R I h => PyProof.Rows.Call_ (ld_blt I hg hm PyProof.Rows.boot_zip (PyProof.Rows.callWith_type1 (thn (ha.run pos pins s σ H _ I h) fun us s1 ⟨vs, H1, I1, r1, q1⟩ => ?_) hs hpl))⟩
  obtain ⟨a, b, c, xs, ys, zs, rfl, qa, qb, qc, q⟩ := q1
  cases r1 with
  | cons r rr =>
    cases rr with
    | cons r' rr =>
      cases rr with
      | cons r2 rr =>
        cases rr
        cases r
        cases r'
        cases r2
        obtain ⟨its, rv, pa, _⟩ := I1.tuple qa
        obtain ⟨its', rv', pb, _⟩ := I1.tuple qb
        obtain ⟨its2, rv2, pc, _⟩ := I1.tuple qc
        have la : a < s1.heap.objs.size := by obtain ⟨oa, ea, _⟩ := pa; exact Heap.lt_size ea
        have lb : b < s1.heap.objs.size := by obtain ⟨oa, ea, _⟩ := pb; exact Heap.lt_size ea
        have lc : c < s1.heap.objs.size := by obtain ⟨oa, ea, _⟩ := pc; exact Heap.lt_size ea
        refine zip_begins3 (begins_tuple a its.toArray) (begins_tuple b its'.toArray) (begins_tuple c its2.toArray) pa pb pc fun g Z P O g1 g2 g3 _ k => wpAny_pyIter_zip Z ?_
        refine ⟨_, _, _, _, H1, rfl, I1.kept (t' := s1.toks) k, turn_z3 (zip_sep3 (N := s1.heap.objs.size) (fp1 := [a]) (fp2 := [b]) (fp3 := [c]) (fun d hd => by rw [List.mem_singleton.mp hd]; exact la) (fun d hd => by rw [List.mem_singleton.mp hd]; exact lb) (fun d hd => by rw [List.mem_singleton.mp hd]; exact lc)) (Nat.ne_of_lt la) (Nat.ne_of_lt (Nat.lt_succ_of_lt lb)) (Nat.ne_of_lt (Nat.lt_succ_of_lt (Nat.lt_succ_of_lt lc))), ⟨Z, P, ⟨_, _, _, O⟩, ⟨_, g1, rfl, rfl⟩, ⟨_, g2, rfl, rfl⟩, ⟨_, g3, rfl, rfl⟩⟩, fun d hd => ?_, q⟩
        have le : s1.heap.objs.size ≤ d := by
          rcases mem6 hd with z | z | z | z | z | z <;> rw [z]
          · exact Nat.le_add_right ..
          · exact Nat.le_add_right ..
          · exact Nat.le_add_right ..
          · exact Nat.le_refl _
          · exact Nat.le_add_right ..
          · exact Nat.le_add_right ..
        exact I1.fpOk le (I1.hok.fresh le)
end Bx
namespace Bx
open PySem PySem.Spec PyProof.Rows L2
/-! ### a call of one of some defs; a dict of the module asked; texts -/
def tEi (t u : TE) : TE := fun σ H Q => t σ H Q ∨ u σ H Q
theorem pe_ei {X : Cx} {e : Expr} {t u : TE} (h1 : PE X e t) (h2 : PE X e u) : PE X e (tEi t u) :=
  ⟨fun pins s σ H Q I h => h.elim (h1.run pins s σ H Q I) (h2.run pins s σ H Q I)⟩
theorem x_eiL {t u : TE} {σ : L2.St} {H : Hp} {Q : VK} (h : t σ H Q) : tEi t u σ H Q := .inl h
theorem x_eiR {t u : TE} {σ : L2.St} {H : Hp} {Q : VK} (h : u σ H Q) : tEi t u σ H Q := .inr h
def rNotKd (K : PySem.W.Frag) (d : Addr) : R2 := fun x y H Q => ∃ (z : Str) (r : Option Value), x = .str z ∧ y = .ref d ∧ PySem.W.nsIn K d z = some r ∧ Q (.bl (!r.isSome)) H
theorem op_notIn_kdE {X : Cx} {d : Addr} (D : ∃ es n, KDict X.K X.w d es n) : OpR X (compareOp .NotIn) (rNotKd X.K d) := by
  obtain ⟨es, n, D⟩ := D
  exact op_notIn_kd D
def rAddStr : R2 := fun x y H Q => ∃ i j, x = .str i ∧ y = .str j ∧ i.length + j.length ≤ sizeLine ∧ Q (.str (i ++ j)) H
theorem op_addStr {X : Cx} : OpR X (binaryOp .Add) rAddStr := op_add_str
def rUpper : V → List V → Hp → VK → Prop := fun x xs H Q => ∃ a, x = .str a ∧ xs = [] ∧ a.length ≤ 5592405 ∧ Q (.str (Txt.upper a)) H
def rInsert : V → List V → Hp → VK → Prop := fun x vs H Q => ∃ (l : Addr) (xs : List V) (i : Int) (y : V), x = .ref l ∧ vs = [.int i, y] ∧ H l = some (.lst xs) ∧ xs.length < sizeLine ∧ 0 ≤ i ∧ i < 2 ^ 63 ∧ Q .non (upd H l (.lst (xs.take i.toNat ++ [y] ++ xs.drop i.toNat)))
theorem mt_insertM {X : Cx} : MtR X "list.insert" rInsert := mt_insert
section
variable {K : PySem.W.Frag} {H : Hp} {Q : VK} {v : V}
theorem x_notKd {z : Str} {d : Addr} {r : Option Value} (e : PySem.W.nsIn K d z = some r) (q : Q (.bl (!r.isSome)) H) : rNotKd K d (.str z) (.ref d) H Q := ⟨z, r, rfl, rfl, e, q⟩
theorem inV_strs {z : Str} : ∀ ws : List Str, inV (.str z) (ws.map V.str) = decide (z ∈ ws)
  | [] => by simp [inV]
  | w :: ws => by
    have ih := inV_strs (z := z) ws
    unfold inV at ih ⊢
    rw [List.map_cons, List.any_cons, ih]
    show ((w == z) || decide (z ∈ ws)) = decide (z ∈ w :: ws)
    rw [Bool.eq_iff_iff]
    simp only [Bool.or_eq_true, beq_iff_eq, decide_eq_true_eq, List.mem_cons]
    exact ⟨fun h => h.imp (fun e => e.symm) id, fun h => h.imp (fun e => e.symm) id⟩
theorem flat_strs : ∀ ws : List Str, (ws.map V.str).all flatV = true
  | [] => rfl
  | w :: ws => by rw [List.map_cons, List.all_cons, flat_strs ws]; rfl
/-- a text in a row of texts -/
theorem x_inS {z : Str} {p : Addr} {ws : List Str} (h : SqT K H p (ws.map V.str)) (q : Q (.bl (decide (z ∈ ws))) H) : rIn K false (.str z) (.ref p) H Q := ⟨p, _, rfl, .inr h, rfl, flat_strs ws, by
  rw [inV_strs]; exact q⟩
theorem x_addStr {i j : Str} (h : i.length + j.length ≤ sizeLine) (q : Q (.str (i ++ j)) H) : rAddStr (.str i) (.str j) H Q := ⟨i, j, rfl, rfl, h, q⟩
theorem x_upper {to : TE} {σ : L2.St} (q : to σ H fun x H1 => ∃ a, x = .str a ∧ a.length ≤ 5592405 ∧ Q (.str (Txt.upper a)) H1) (m : ∀ Q Q' : VK, (∀ v H, Q v H → Q' v H) → to σ H Q → to σ H Q') : tM0 rUpper to σ H Q :=
  m _ _ (fun v H1 ⟨a, e, l, z⟩ => ⟨⟨a, e⟩, a, e, rfl, l, z⟩) q
theorem x_insert {p : Addr} {xs : List V} {z : Int} {y : V} {k : Nat} (h : H p = some (.lst xs)) (hz : z = (k : Int)) (hl : xs.length < 100000) (hk : k < 100000) (q : Q .non (upd H p (.lst (xs.take k ++ [y] ++ xs.drop k)))) : rInsert (.ref p) [.int z, y] H Q := by
  subst hz
  exact ⟨p, xs, _, y, rfl, rfl, h, szl hl, by omega, by omega, q⟩
end
end Bx
namespace Bx
open PySem PySem.Spec PyProof.Rows L2
/-! ### x, *rest = a row -/
section
variable {X : Cx} {pos : Pos}
def gStar (K : PySem.W.Frag) (g1 g2 : TG) : TG := fun v σ H Q => ∃ (a : Addr) (x : V) (xs : List V), v = .ref a ∧ (SqT K H a (x :: xs) ∨ SqL K H a (x :: xs)) ∧ xs.length ≤ 10000 ∧
  ∀ p, H p = none → g1 x σ (upd H p (.lst xs)) fun σ1 H1 => g2 (.ref p) σ1 H1 Q
theorem star_left {w : World} {P : Program} {A : Around} {E : Value → Shared → Prop} {Q : List Value → Shared → Prop} {s : Shared} {u : Value} {rest : List Value} (hz : rest.length ≤ 10000)
    (h : Q [u, .ref s.heap.objs.size] { s with heap := s.heap.push { cls := .type "list", data := .seq rest.toArray } }) :
    wpAny (model P w) A (newList rest >>= fun d => pure ([u] ++ [d] ++ [])) Q E s :=
  wpAny_bind (wpAny_newList (wpAny_pure h) (Nat.le_trans hz (by decide)))
theorem star_run {pins : List (Addr × Obj)} {σ : L2.St} {H : Hp} {s : Shared} {a : Addr} {x : V} {xs : List V} {Q : List Value → Shared → Prop} (hc : X.calm = true) (I : Inv X pins σ H s) (hq : SqT X.K H a (x :: xs) ∨ SqL X.K H a (x :: xs)) (hl : xs.length ≤ 10000)
    (h : ∀ (u : Value) (p : Addr) (s' : Shared), RelV x u → H p = none → Inv X pins σ (upd H p (.lst xs)) s' → Q [u, .ref p] s') : wpAny (model X.prog X.w) X.A (unpackItems (.ref a) 2 (some 1)) Q X.xe s := by
  have hh : X.A.handled = none := I.ok.hd hc
  have fin : ∀ (us : List Value) (r : Vals (x :: xs) us) (h2 : Heap) (tk : Nat), (∀ b o, s.heap.get? b = some o → h2.get? b = some o) → ∃ u rest, us = u :: rest ∧ rest.length ≤ 10000 ∧
      Q [u, .ref h2.objs.size] { s with heap := h2.push { cls := .type "list", data := .seq rest.toArray }, toks := tk } := by
    intro us r h2 tk kp
    cases r with
    | @cons _ u _ rest r1 rr =>
      refine ⟨u, rest, rfl, by rw [← rr.length]; exact hl, ?_⟩
      have I2 : Inv X pins σ H { s with heap := h2, toks := tk } := I.kept kp
      have hf : H h2.objs.size = none := I2.hok.fresh (Nat.le_refl _)
      refine h u h2.objs.size _ r1 hf (I2.laid (t' := tk) (fun b o e => Heap.get?_push_of_some _ e) (Nat.le_refl _) ?_)
      exact ⟨Nat.le_trans hl (by decide), rest, 0, rr, Heap.get?_push_size _ rfl⟩
  rcases hq with hq | hq
  · obtain ⟨us, r, ht, hz⟩ := I.tuple hq
    have hlt : a ≠ s.heap.objs.size := by obtain ⟨o, ho, _⟩ := ht; exact Nat.ne_of_lt (Heap.lt_size ho)
    have us1 : us.toArray.size = xs.length + 1 := by simp [← r.length]
    unfold unpackItems
    refine wpAny_bind ?_
    unfold notIterableAtAll
    refine wpAny_bind (wpAny_specialOf ht.typeIs slot_tuple_iter.lookup (wpAny_pure ?_))
    simp only [Bool.false_eq_true, if_false]
    refine wpAny_bind (wpAny_holding (iter_tuple ht ?_))
    refine wpAny_bind (wpAny_holding (draw_tuple hlt 1 0 _ _ ⟨_, Heap.get?_push_size _ rfl, rfl, rfl⟩ (ht.keeps fun b o e => Heap.get?_push_of_some _ e) (by omega) fun h1 it1 sb1 => ?_))
    have ht1 : IsTup h1 a us.toArray := (ht.keeps fun b o e => Heap.get?_push_of_some _ e).extBut sb1.extBut hlt
    obtain ⟨oi, hoi, _⟩ := id it1
    obtain ⟨ol, hol, _⟩ := id ht1
    have e1 : ((us.toArray.toList.drop 0).take 1).length = 1 := by rw [List.length_take, List.drop_zero, Array.length_toList]; omega
    rw [if_neg (by rw [e1]; omega)]
    refine wpAny_bind (wpAny_holding (PySem.W.kun_collect (s := { s with heap := h1 }) (T := "tuple_iterator") (.inr (.inr (.inr rfl))) (Walks.tuple (A := X.A.in1) hh s.heap.objs.size a hlt us.toArray) (fun j u st => st.1.typeIs) (k := 1) (by omega) ⟨it1, ht1⟩ (Heap.lt_size hoi) (Heap.lt_size hol) (fun h2 tk kp => ?_) (Nat.le_trans (by omega : us.toArray.size ≤ 10001) (by decide))))
    obtain ⟨u, rest, eu, hr, hQ⟩ := fin us r h2 tk fun b o e => kp b o (Nat.ne_of_lt (Heap.lt_size e)) (sb1.extBut b o (Nat.ne_of_lt (Heap.lt_size e)) (Heap.get?_push_of_some _ e))
    subst eu
    have e2 : (((u :: rest).toArray.toList.drop 1).length - (2 - 1 - 1)) = rest.length := by simp
    rw [if_neg (by omega), e2]
    have e3 : ((u :: rest).toArray.toList.drop 1) = rest := by simp
    rw [e3, List.take_length, List.drop_length]
    exact star_left hr hQ
  · obtain ⟨us, r, hp, hz⟩ := I.list hq
    have ht := hp.isList
    have hlt : a ≠ s.heap.objs.size := by obtain ⟨o, ho, _⟩ := ht; exact Nat.ne_of_lt (Heap.lt_size ho)
    have us1 : us.toArray.size = xs.length + 1 := by simp [← r.length]
    unfold unpackItems
    refine wpAny_bind ?_
    unfold notIterableAtAll
    refine wpAny_bind (wpAny_specialOf ht.typeIs slot_list_iter.lookup (wpAny_pure ?_))
    simp only [Bool.false_eq_true, if_false]
    refine wpAny_bind (wpAny_holding (wpAny_pyIter_list ht ?_))
    refine wpAny_bind (wpAny_holding (PySem.W.kun_draw hlt 1 0 _ _ ⟨_, Heap.get?_push_size _ rfl, rfl, rfl⟩ (ht.push _) (by omega) fun h1 it1 sb1 => ?_))
    have ht1 : h1.IsList a us.toArray := (ht.push _).extBut sb1.extBut hlt
    obtain ⟨oi, hoi, _⟩ := id it1
    obtain ⟨ol, hol, _⟩ := id ht1
    have e1 : ((us.toArray.toList.drop 0).take 1).length = 1 := by rw [List.length_take, List.drop_zero, Array.length_toList]; omega
    rw [if_neg (by rw [e1]; omega)]
    refine wpAny_bind (wpAny_holding (PySem.W.kun_collect (s := { s with heap := h1 }) (T := "list_iterator") (.inr (.inr (.inl rfl))) (Walks.list (A := X.A.in1) hh s.heap.objs.size a hlt us.toArray) (fun j u st => st.1.typeIs) (k := 1) (by omega) ⟨it1, ht1⟩ (Heap.lt_size hoi) (Heap.lt_size hol) (fun h2 tk kp => ?_) (Nat.le_trans (by omega : us.toArray.size ≤ 10001) (by decide))))
    obtain ⟨u, rest, eu, hr, hQ⟩ := fin us r h2 tk fun b o e => kp b o (Nat.ne_of_lt (Heap.lt_size e)) (sb1.extBut b o (Nat.ne_of_lt (Heap.lt_size e)) (Heap.get?_push_of_some _ e))
    subst eu
    have e2 : (((u :: rest).toArray.toList.drop 1).length - (2 - 1 - 1)) = rest.length := by simp
    rw [if_neg (by omega), e2]
    have e3 : ((u :: rest).toArray.toList.drop 1) = rest := by simp
    rw [e3, List.take_length, List.drop_length]
    exact star_left hr hQ
theorem pg_star {g1 g2 : TG} {e1 e2 : Expr} {p2 : Pos} {k : Nat} (hc : X.calm = true) (h1 : PG X e1 g1) (h2 : PG X e2 g2) (hs : assignEach [e1, .Starred e2 p2] X.env = [(false, assign e1 X.env), (true, assign e2 X.env)] := by rfl) :
    PG X (.Tuple [e1, .Starred e2 p2] k pos) (gStar X.K g1 g2) := by
  refine ⟨fun pins s σ H v u Q I r hw => ?_⟩
  obtain ⟨a, x, xs, rfl, hq, hl, hw⟩ := hw
  cases r
  rw [assign_Tuple]
  refine wpAny_bind (wpAny_standAt ?_)
  unfold unpack
  rw [hs]
  refine wpAny_bind (wpAny_holding (star_run hc I hq hl fun u p s' ru hp I' => ?_))
  refine assignInOrder_cons (thn (h1.run pins s' σ _ x u _ I' ru (hw p hp)) fun _ s1 ⟨σ1, H1, I1, q1⟩ => ?_)
  refine assignInOrder_cons (thn (h2.run pins s1 σ1 H1 (.ref p) (.ref p) Q I1 rfl q1) fun _ s2 ⟨σ2, H2, I2, q2⟩ => ?_)
  exact assignInOrder_nil ⟨σ2, H2, I2, q2⟩
end
/-! ### f(*row), f a local that holds a def -/
def tCallLS (K : PySem.W.Frag) (i : Nat) (f : Addr) (sp : Sp) (te : TE) : TE := fun σ H Q => σ[i]? = some (some (.ref f)) ∧ te σ H fun y H1 => ∃ (a : Addr) (xs : List V), y = .ref a ∧ (SqT K H1 a xs ∨ SqL K H1 a xs) ∧ sp xs H1 Q E0
theorem pe_callVS {X : Cx} {i k : Nat} {V0 : Addr} {y x : Str} {ps : List Str} {sp : Sp} {e : Expr} {te : TE} {p p2 pos : Pos} (O : Ok X.prog X.w X.K X.mg X.base k y ps sp) (m : X.mg y = some (.ref V0)) (hr : Room k X.A) (hN : X.N[i]? = some x) (hv : Vis X.env.scope x) (he : PE X e te)
    (hdb : (x == ("__debug__" : Str)) = false := by decide) (hcd : (x == ("__classdict__" : Str)) = false := by decide)
    (hst : starEach [.Starred e p2] X.env = [(true, eval e X.env)] := by rfl) : PE X (.Call (.Name x p) [.Starred e p2] [] pos) (tCallLS X.K i V0 sp te) := by
  obtain ⟨f, fd, F, m', hk, hb⟩ := O.ex
  rw [m] at m'
  cases m'
  refine ⟨fun pins s σ H Q I h => ?_⟩
  obtain ⟨hs, ht⟩ := h
  refine wpAny_Call_Name_kw (thn ((pe_var (pos := p) hN hv hdb hcd).run pins s σ H (fun v H1 => v = .ref V0 ∧ H1 = H) I ⟨.ref V0, hs, rfl, rfl⟩) fun u s1 ⟨v, H1, I1, r1, q1⟩ => ?_)
  obtain ⟨rfl, rfl⟩ := q1
  cases r1
  refine PySem.W.callWith_S (h₀ := X.base) I.ok.mod.kin hk (thn (he.run pins s1 σ _ _ I1 ht) fun v s2 ⟨y, H2, I2, ry, a, xs, ey, hxs, q⟩ => ?_) hst
  subst ey
  obtain rfl : v = Value.ref a := ry
  refine StX.star_any I2 hxs fun us s3 I3 rv => ⟨I3.kIn, ?_⟩
  refine run_fn (dvs := []) (E := E0) F hr hb .nil pass0 I3 rv ?_
  rw [List.append_nil]
  exact q
theorem x_callLS {K : PySem.W.Frag} {i : Nat} {f : Addr} {sp : Sp} {te : TE} {σ : L2.St} {H : Hp} {Q : VK} (h : σ[i]? = some (some (.ref f))) (q : te σ H fun y H1 => ∃ (a : Addr) (xs : List V), y = .ref a ∧ (SqT K H1 a xs ∨ SqL K H1 a xs) ∧ sp xs H1 Q E0) : tCallLS K i f sp te σ H Q := ⟨h, q⟩
/-! ### texts of numbers, texts joined, texts with places -/
def tI (i : Int) : Str := Str.ofString (toString i)
theorem tI_len {i : Int} (h : i.natAbs < 1000000000000) : (tI i).length ≤ 13 := by
  unfold tI
  rw [PySem.ofString_length]
  exact int_text_length_le10 (k := 12) (by decide) h
theorem log_of {i : Int} (h : i.natAbs < 1000000000000) : i.natAbs.log2 < 1920 := by
  by_cases z : i.natAbs = 0
  · rw [z]; decide
  · rw [Nat.log2_lt z]
    exact Nat.lt_of_lt_of_le h (by decide +kernel)
def rStrI : List V → Hp → VK → Prop := fun xs H Q => ∃ i, xs = [.int i] ∧ i.natAbs.log2 < 1920 ∧ Q (.str (toString i)) H
theorem c_strI {X : Cx} : CallR X (.type "str") rStrI := call_str_int
theorem x_strI {i : Int} {H : Hp} {Q : VK} (h : i.natAbs < 1000000000000) (q : Q (.str (tI i)) H) : rStrI [.int i] H Q := ⟨i, rfl, log_of h, q⟩
def rJoin (K : PySem.W.Frag) : V → List V → Hp → VK → Prop := fun x xs H Q => ∃ a p, ∃ ys : List Str, x = .str a ∧ xs = [.ref p] ∧ (SqL K H p (ys.map V.str) ∨ SqT K H p (ys.map V.str)) ∧ (ys.map (·.length)).sum + ys.length * a.length ≤ 16777216 ∧ Q (.str (Txt.join a ys)) H
theorem pe_joinM {X : Cx} {o e : Expr} {to te : TE} {apos pos : Pos} (ho : PE X o to) (he : PE X e te) (hs : starEach [e] X.env = [(false, eval e X.env)] := by rfl) (hbase : attributeBase o "join" X.env (eval o X.env) = eval o X.env := by rfl) (hline : (apos.endLine == pos.line) = true := by rfl) :
    PE X (.Call (.Attribute o "join" apos) [e] [] pos) (tM1 (rJoin X.K) to te) := pe_join ho he hs hbase hline
theorem x_m1S {r : V → List V → Hp → VK → Prop} {z : Str} {te : TE} {σ : L2.St} {H : Hp} {Q : VK} (q : te σ H fun y H2 => r (.str z) [y] H2 Q) : tM1 r (tC (.str z)) te σ H Q := ⟨⟨z, rfl⟩, q⟩
theorem sum_le {ys : List Str} {M : Nat} (h : ∀ y, y ∈ ys → y.length ≤ M) : (ys.map (·.length)).sum ≤ ys.length * M := by
  induction ys with
  | nil => exact Nat.zero_le _
  | cons y ys ih =>
    have h1 := h y List.mem_cons_self
    have h2 := ih fun z hz => h z (List.mem_cons_of_mem _ hz)
    rw [List.map_cons, List.sum_cons, List.length_cons, Nat.succ_mul]
    omega
theorem join_le {a : Str} {ys : List Str} {M : Nat} (h : ∀ y, y ∈ ys → y.length ≤ M) : (Txt.join a ys).length ≤ ys.length * M + ys.length * a.length := by
  show (Builtin.Str.glued a ys).length ≤ _
  rw [StrLaws.glued_eq_join]
  exact Nat.le_trans (StrLaws.join_length_le a ys) (Nat.add_le_add_right (sum_le h) _)
theorem x_join {K : PySem.W.Frag} {a : Str} {p : Addr} {ys : List Str} {M : Nat} {H : Hp} {Q : VK} (h : H p = some (.lst (ys.map V.str))) (hM : ∀ y, y ∈ ys → y.length ≤ M) (hz : ys.length * M + ys.length * a.length ≤ 16777216) (q : Q (.str (Txt.join a ys)) H) : rJoin K (.str a) [.ref p] H Q :=
  ⟨a, p, ys, rfl, rfl, .inl (SqL.of h), Nat.le_trans (Nat.add_le_add_right (sum_le hM) _) hz, q⟩
def tFs (ts : List TE) : TE := fun σ H Q => tJs ts Str.empty σ H fun out H1 => Q (.str out) H1
theorem pe_fs {X : Cx} {v1 v2 : Expr} {rest : List Expr} {ts : List TE} {pos : Pos} (h : PJ X (v1 :: v2 :: rest) ts) : PE X (.JoinedStr (v1 :: v2 :: rest) pos) (tFs ts) := pe_joined h
section
variable {t te : TE} {ts : List TE} {acc z : Str} {i : Int} {σ : L2.St} {H : Hp} {Q : VK} {R : Str → Hp → Prop}
theorem x_fs (q : tJs ts Str.empty σ H fun out H1 => Q (.str out) H1) : tFs ts σ H Q := q
theorem x_jsN (q : R acc H) : tJs [] acc σ H R := q
/-- a written piece -/
theorem x_jsC (h : acc.length + z.length ≤ 1000000) (q : tJs ts (acc ++ z) σ H R) : tJs (tC (.str z) :: ts) acc σ H R := ⟨z, rfl, Nat.le_trans (by rw [Str.length_append]; exact h) (by decide), q⟩
/-- {x} -/
theorem x_jsF (q : te σ H fun x H1 => (∃ y : Str, x = .str y ∧ y.length ≤ 1000000 ∧ acc.length + y.length ≤ 1000000 ∧ tJs ts (acc ++ y) σ H1 R) ∨ ∃ i : Int, x = .int i ∧ i.natAbs < 1000000000000 ∧ acc.length + 13 ≤ 1000000 ∧ tJs ts (acc ++ tI i) σ H1 R)
    (m : ∀ Q Q' : VK, (∀ v H, Q v H → Q' v H) → te σ H Q → te σ H Q') : tJs (tFmt te :: ts) acc σ H R := by
  refine m _ _ (fun v H1 hv => ?_) q
  rcases hv with ⟨y, rfl, hy, ha, q⟩ | ⟨i, rfl, hi, ha, q⟩
  · exact .inl ⟨y, rfl, Nat.le_trans hy (by decide), y, rfl, Nat.le_trans (show (acc ++ _).length ≤ 1000000 by rw [Str.length_append]; exact ha) (by decide), q⟩
  · refine .inr ⟨i, rfl, log_of hi, tI i, rfl, Nat.le_trans (show (acc ++ tI i).length ≤ 1000000 by rw [Str.length_append]; have := tI_len hi; omega) (by decide), q⟩
theorem x_jsI (hv : σ[n]? = some (some (V.int i))) (hi : i.natAbs < 1000000000000) (ha : acc.length + 13 ≤ 1000000) (q : tJs ts (acc ++ tI i) σ H R) : tJs (tFmt (tVar n) :: ts) acc σ H R :=
  ⟨.int i, hv, .inr ⟨i, rfl, log_of hi, tI i, rfl, Nat.le_trans (show (acc ++ tI i).length ≤ 1000000 by rw [Str.length_append]; have := tI_len hi; omega) (by decide), q⟩⟩
theorem x_jsS (hv : σ[n]? = some (some (V.str z))) (ha : acc.length + z.length ≤ 1000000) (q : tJs ts (acc ++ z) σ H R) : tJs (tFmt (tVar n) :: ts) acc σ H R :=
  ⟨.str z, hv, .inl ⟨z, rfl, Nat.le_trans (by omega : z.length ≤ 1000000) (by decide), z, rfl, Nat.le_trans (show (acc ++ _).length ≤ 1000000 by rw [Str.length_append]; exact ha) (by decide), q⟩⟩
end
theorem x_orT {K : PySem.W.Frag} {ta tb : TE} {σ : L2.St} {H : Hp} {Q : VK} (q : ta σ H fun x H1 => ∃ k, TruV K x H1 k ∧ if k = true then Q x H1 else tb σ H1 Q) : tOrT K ta tb σ H Q := q
theorem tru_lst {K : PySem.W.Frag} {p : Addr} {xs : List V} {H : Hp} (h : H p = some (.lst xs)) : TruV K (.ref p) H (!xs.isEmpty) := .inl ⟨xs, SqL.of h, rfl⟩
def rListOf (K : PySem.W.Frag) : List V → Hp → VK → Prop := fun xs H Q => ∃ (p : Addr) (ys : List V), xs = [.ref p] ∧ (SqL K H p ys ∨ SqT K H p ys) ∧ ∀ l, H l = none → Q (.ref l) (upd H l (.lst ys))
theorem c_listOf {X : Cx} : CallR X (.type "list") (rListOf X.K) := call_list_of
theorem x_listOf {K : PySem.W.Frag} {p : Addr} {ys : List V} {H : Hp} {Q : VK} (h : H p = some (.lst ys) ∨ H p = some (.tup ys)) (q : ∀ l H', Same H H' → H l = none → H' l = some (.lst ys) → Q (.ref l) H') : rListOf K [.ref p] H Q :=
  ⟨p, ys, rfl, h.imp SqL.of SqT.of, fun l hl => q l _ (Same.new (Same.refl _) hl) hl upd_same⟩
theorem x_mklN {xs : List V} {m : Nat} {H : Hp} {Q : VK} (hm : xs.length = m) (h : m ≤ 100000) (q : ∀ p H', Same H H' → H p = none → H' p = some (.lst xs) → Q (.ref p) H') : mkL xs H Q := x_mkl hm h fun p hp => q p _ (Same.new (Same.refl _) hp) hp upd_same
/-! ### texts, one behind the other -/
theorem s_nil (a : Str) : Str.empty ++ a = a := TL.ext_tl (by rw [TL.tl_append]; rfl)
theorem s_nil' (a : Str) : ("" : Str) ++ a = a := TL.ext_tl (by rw [TL.tl_append]; rfl)
theorem s_end (a : Str) : a ++ ("" : Str) = a := TL.ext_tl (by rw [TL.tl_append]; exact List.append_nil _)
theorem s_as (a b c : Str) : (a ++ b) ++ c = a ++ (b ++ c) := TL.ext_tl (by rw [TL.tl_append, TL.tl_append, TL.tl_append, TL.tl_append, List.append_assoc])
/-! ### zip of two lists, the shorter one ends it -/
theorem x_zipB {K : PySem.W.Frag} {g : TG} {ts : TS} {n b c : L2.St → Hp → Prop} {r : VK} {σ : L2.St} {H : Hp} {a a' : Addr} {t u : Bool} {xs ys : List V} {m : Nat} (hm1 : m ≤ xs.length) (hm2 : m ≤ ys.length) (he : m = xs.length ∨ m = ys.length) (Pv : Nat → L2.St → Hp → Prop) (h0 : Pv 0 σ H)
    (hk : ∀ i σ H', Pv i σ H' → SqB K t H' a xs ∧ SqB K u H' a' ys)
    (hs : ∀ (i : Nat) x y T σ H1, xs[i]? = some x → ys[i]? = some y → Pv i σ H1 → H1 T = none → g (.ref T) σ (upd H1 T (.tup [x, y])) fun σ2 H2 => ts ⟨Pv (i + 1), r, n, Pv (i + 1)⟩ σ2 H2)
    (hd : ∀ σ H, Pv m σ H → n σ H) :
    ∃ p p' ps qs t u', [V.ref a, V.ref a'] = [.ref p, .ref p'] ∧ SqB K t H p ps ∧ SqB K u' H p' qs ∧ rawJ (Itz2 K t u' p p') g ts ⟨n, r, b, c⟩ σ H := by
  obtain ⟨k1, k2⟩ := hk 0 σ H h0
  refine ⟨a, a', xs, ys, t, u, rfl, k1, k2, fun i k σ H' => k = m - i ∧ i ≤ m ∧ Pv i σ H', ⟨_, rfl, Nat.zero_le _, h0⟩, ?_⟩
  rintro i k σ H' ⟨rfl, hi, p⟩
  obtain ⟨k1, k2⟩ := hk i σ H' p
  by_cases c : i < m
  · refine .inr ⟨⟨xs, ys, xs[i]'(by omega), ys[i]'(by omega), k1, k2, List.getElem?_eq_getElem _, List.getElem?_eq_getElem _⟩, Pv (i + 1), fun σ' H2 p' => ⟨m - (i + 1), by omega, rfl, c, p'⟩, fun x H2 y => ?_⟩
    obtain ⟨T, x1, y1, rfl, hT, rfl, hx, hy⟩ := y
    exact hs i x1 y1 T σ H' (hx xs k1) (hy ys k2) p hT
  · have e : i = m := by omega
    subst e
    exact .inl ⟨⟨xs, ys, k1, k2, he.imp (fun z => Nat.le_of_eq z.symm) fun z => Nat.le_of_eq z.symm⟩, hd σ H' p⟩
end Bx
namespace Bx
open PySem PySem.Spec PyProof.Rows L2
abbrev exB : List Value := [.type "Exception", .type "BaseException", .type "object"]
/-- an own error without an __init__ of its own, or the base of all -/
structure Tx0 (K : PySem.W.Frag) (mg : Str → Option Value) (x : Str) (C : Addr) : Prop where
  gC : mg x = some (.ref C)
  q : PySem.W.excIn K C exB "Exception.__new__" = true
  kC : PySem.W.keepIn K (.ref C) = true
  exC : PySem.W.subIn K (.ref C) (.type "BaseException") = some true
  tyC : PySem.W.typeIn K (.ref C) = some (.type "type")
section
variable {X : Cx} {C : Addr} {x : Str} {W : WX} {p pos pos2 : Pos}
theorem pmk0 (T : Tx0 X.K X.mg x C) (hg : Gl X x) (hdb : (x == ("__debug__" : Str)) = false := by decide) : PMk X (.Call (.Name x p) [] [] pos) (fun _ H Q => Q (.ref C) none H) := by
  intro pins s σ H Q I h
  refine wpAny_Call_Name_kw (ld_glob I hg T.gC ?_ hdb)
  refine PySem.W.callWith_K0 I.kIn T.kC ?_
  show wpAny _ _ (call (.ref C) []) _ _ _
  obtain ⟨bm, N, nm, qn, bs, hdct, sn, sub, ab, col, dd, k0, k1, k2, k3, k5, mN, hC, hN, hni, Tt⟩ := exc_obj I.kIn T.q
  refine wpAny_call_exc_subT PySem.F.excBase_Exception Tt hC hN hni (fun h' e hm => ?_) (by show 0 ≤ sizeLine; omega)
  exact mk_of I hm (raises_own T.exC T.tyC) h (I.hok.gone hm.new)
def tRaise0 (C : Addr) (W : WX) : TS := fun _ σ H => W (.ref C) none σ H
theorem ps_raise0 (hc : X.calm = true) (T : Tx0 X.K X.mg x C) (tk : Takes X W) (hg : Gl X x) (hdb : (x == ("__debug__" : Str)) = false := by decide) : PS X (.Raise (some (.Call (.Name x p) [] [] pos)) none pos2) (tRaise0 C W) := ps_raise hc tk (pmk0 T hg hdb)
theorem x_raise0 {σ : L2.St} {H : Hp} {n b c : L2.St → Hp → Prop} {r : VK} (q : W (.ref C) none σ H) : tRaise0 C W ⟨n, r, b, c⟩ σ H := q
end
open PySem.W in
/-- an error of the class at C is what «except S» names -/
theorem names_of {K : Frag} {C S : Addr} (h1 : subIn K (.ref S) (.type "BaseException") = some true) (h2 : isClsIn K S = true) (h3 : typeIn K (.ref S) = some (.type "type")) (h4 : subIn K (.ref C) (.ref S) = some true) :
    exmOne K (.ref C) (.ref S) = some true := by
  have e1 : (subIn K (.ref S) (.type "BaseException") == some true) = true := by rw [h1] <;> rfl
  have e2 : ((clsIn K S).isSome && typeIn K (.ref S) == some (.type "type")) = true := by
    have h2' : (clsIn K S).isSome = true := h2
    rw [h2', h3] <;> rfl
  show (if (subIn K (.ref S) (.type "BaseException") == some true) = true then (if ((clsIn K S).isSome && typeIn K (.ref S) == some (.type "type")) = true then subIn K (.ref C) (.ref S) else none) else none) = some true
  rw [if_pos e1, if_pos e2]
  exact h4
end Bx
namespace Bx
open PySem PySem.Spec PyProof.Rows L2
/-- the j-th statement of a class's body -/
def sub (s : Stmt) (j : Nat) : Stmt := match s with
  | .ClassDef _ _ _ b _ _ _ _ _ _ _ => b.getD j (.Pass ⟨0, 0, 0, 0⟩)
  | _ => .Pass ⟨0, 0, 0, 0⟩
/-! ### methods of an own class -/
structure OkM (CT : CXT) (P : Program) (w : World) (K : PySem.W.Frag) (mg : Str → Option Value) (base : Heap) (k : Nat) (C : Addr) (m : Str) (ps : List Str) (sp : Sp) : Prop where
  ex : ∃ f fd, FnOk P w K mg base CT k f fd ps sp ∧ Meth K C m f ∧ Binds K fd ps []
structure OkMK (CT : CXT) (P : Program) (w : World) (K : PySem.W.Frag) (mg : Str → Option Value) (base : Heap) (k : Nat) (C : Addr) (m : Str) (ps : List Str) (sp : Sp) (ks : List Str) (idx : List Nat) : Prop where
  ex : ∃ f fd, FnOk P w K mg base CT k f fd ps sp ∧ Meth K C m f ∧
    ∀ us ws : List Value, us.length = 1 → ws.length = ks.length → bindArgs fd ⟨us, ks.zip ws⟩ = pure (ps.zip (us ++ idx.map fun i => ws.getD i .none))
structure OkI (CT : CXT) (P : Program) (w : World) (K : PySem.W.Frag) (mg : Str → Option Value) (base : Heap) (k : Nat) (C : Addr) (x : Str) (ps : List Str) (sp : Sp) : Prop where
  ex : ∃ f fd, FnOk P w K mg base CT k f fd ps sp ∧ Mk K C f ∧ mg x = some (.ref C) ∧ Binds K fd ps []
/-- o.m(e, ..) -/
def tM (C : Addr) (m : Str) (sp : Sp) (E : L2.St → XK) (ta : TE) (t : TA) : TE := fun σ H Q => ta σ H fun x H1 => ∃ a dx fs, x = .ref a ∧ H1 a = some (.ins C dx fs) ∧ fs.lookup m = none ∧ t σ H1 fun vs H2 => sp (x :: vs) H2 Q (E σ)
/-- o.m(k = e, ..) -/
def tMK (C : Addr) (m : Str) (n : Nat) (sp : Sp) (idx : List Nat) (E : L2.St → XK) (ta : TE) (tk : TA) : TE := fun σ H Q => ta σ H fun x H1 => ∃ a dx fs, x = .ref a ∧ H1 a = some (.ins C dx fs) ∧ fs.lookup m = none ∧
  tk σ H1 fun zs H2 => zs.length = n ∧ sp (x :: idx.map fun i => zs.getD i .non) H2 Q (E σ)
section
variable {X : Cx} {CT : CXT} {k : Nat} {C : Addr} {m x : Str} {ps ks : List Str} {sp : Sp} {idx : List Nat} {E : L2.St → XK} {o e : Expr} {es : List Expr} {kws : List Keyword} {ta : TE} {t tk : TA} {p apos pos : Pos} {pl : Sem Bool}
theorem pe_m (c : Cls X.K C) (O : OkM CT X.prog X.w X.K X.mg X.base k C m ps sp) (hr : Room k X.A) (hx : ∀ σ, PassesAt CT X σ (E σ)) (he : PE X o ta) (ha : PA X (e :: es) t)
    (hst : starEach (e :: es) X.env = (false, eval e X.env) :: starEach es X.env := by rfl) (hpl : (backTo pos (starEach es X.env)).any (·.1) = false := by rfl)
    (ht : eval (.Call (.Attribute o m apos) (e :: es) [] pos) X.env = (do
      let ov ← eval o X.env
      standAt apos.atName
      let (f, first) ← holding [ov] (getMethod ov m pl)
      callWith pos f first (backTo pos (starEach (e :: es) X.env)) (backToKw pos (keywordEach [] X.env))) := by rfl) :
    PE X (.Call (.Attribute o m apos) (e :: es) [] pos) (tM C m sp E ta t) := by
  obtain ⟨f, fd, F, hm, hb⟩ := O.ex
  refine ⟨fun pins s σ H Q I h => ?_⟩
  refine PySem.W.methodCall_KW (pl := pl) (thn (he.run pins s σ H _ I h) fun u s1 ⟨x, H1, I1, rx, a, dx, fs, ex, ea, l, q⟩ => ?_) ht
  subst ex
  obtain rfl : u = Value.ref a := rx
  refine getmeth_ok I1 ea c hm l ?_
  refine PySem.W.callWith_K (first := [.ref a]) (h₀ := X.base) I.ok.mod.kin hm.kp (thn (ha.run pos pins s1 σ H1 _ I1 q) fun us s2 ⟨vs, H2, I2, r, q2⟩ => ⟨I2.kIn, ?_⟩) hst hpl
  exact run_fnS (us := .ref a :: us) (vs := .ref a :: vs) F hr hb (hx σ) I2 (.cons rfl r) q2
theorem pe_m0 (c : Cls X.K C) (O : OkM CT X.prog X.w X.K X.mg X.base k C m ps sp) (hr : Room k X.A) (hx : ∀ σ, PassesAt CT X σ (E σ)) (he : PE X o ta)
    (ht : eval (.Call (.Attribute o m apos) [] [] pos) X.env = (do
      let ov ← eval o X.env
      standAt apos.atName
      let (f, first) ← holding [ov] (getMethod ov m pl)
      callWith pos f first (backTo pos (starEach [] X.env)) (backToKw pos (keywordEach [] X.env))) := by rfl) :
    PE X (.Call (.Attribute o m apos) [] [] pos) (tM C m sp E ta tNil) := by
  obtain ⟨f, fd, F, hm, hb⟩ := O.ex
  refine ⟨fun pins s σ H Q I h => ?_⟩
  refine PySem.W.methodCall_KW (pl := pl) (thn (he.run pins s σ H _ I h) fun u s1 ⟨x, H1, I1, rx, a, dx, fs, ex, ea, l, q⟩ => ?_) ht
  subst ex
  obtain rfl : u = Value.ref a := rx
  refine getmeth_ok I1 ea c hm l ?_
  exact PySem.W.callWith_K0 (first := [.ref a]) I1.kIn hm.kp (run_fnS (us := [.ref a]) (vs := [.ref a]) F hr hb (hx σ) I1 (.cons rfl .nil) q)
theorem run_fnMK {pins : List (Addr × Obj)} {σ : L2.St} {H : Hp} {s : Shared} {Q : VK} {ws : List Value} {zs : List V} {a f : Addr} {fd : FuncData} {E : XK} (F : FnOk X.prog X.w X.K X.mg X.base CT k f fd ps sp) (hr : Room k X.A)
    (hb : ∀ us ws : List Value, us.length = 1 → ws.length = ks.length → bindArgs fd ⟨us, ks.zip ws⟩ = pure (ps.zip (us ++ idx.map fun i => ws.getD i .none))) (hx : PassesAt CT X σ E)
    (I : Inv X pins σ H s) (rz : Vals zs ws) (l2 : zs.length = ks.length) (h : sp (.ref a :: idx.map fun i => zs.getD i .non) H Q E) : wpAny (model X.prog X.w) X.A (call (.ref f) [.ref a] (ks.zip ws)) (EP X pins σ Q) X.xe s := by
  have r2 : Vals (.ref a :: idx.map fun i => zs.getD i .non) ([.ref a] ++ idx.map fun i => ws.getD i .none) := .cons rfl (vals_idx rz idx)
  refine wpAny_call (codeAny_mono (F.run X.A X.stack s H ⟨[.ref a], ks.zip ws⟩ _ _ Q E hr I.env0 (.of_eq (hb [.ref a] ws rfl (rz.length.symm.trans l2))) r2 h) fun r s' hq => ?_)
  cases r with
  | error e => exact hx pins H s e s' I hq
  | ok fl =>
    cases fl with
    | ret u => exact I.after hq
    | next => exact False.elim hq
    | brk => exact False.elim hq
    | cont => exact False.elim hq
theorem pe_mK {n : Nat} (c : Cls X.K C) (O : OkMK CT X.prog X.w X.K X.mg X.base k C m ps sp ks idx) (hr : Room k X.A) (hx : ∀ σ, PassesAt CT X σ (E σ)) (he : PE X o ta) (hkw : PK X kws tk)
    (hall : (backToKw pos (keywordEach kws X.env)).all (·.1.isSome) = true := by rfl) (hks : (backToKw pos (keywordEach kws X.env)).filterMap (·.1) = ks := by rfl) (hn : ks.length = n := by rfl)
    (hpl : ((backTo pos (starEach [] X.env)).any (·.1) || (backToKw pos (keywordEach kws X.env)).any (·.1.isNone)) = false := by rfl)
    (ht : eval (.Call (.Attribute o m apos) [] kws pos) X.env = (do
      let ov ← eval o X.env
      standAt apos.atName
      let (f, first) ← holding [ov] (getMethod ov m pl)
      callWith pos f first (backTo pos (starEach [] X.env)) (backToKw pos (keywordEach kws X.env))) := by rfl) :
    PE X (.Call (.Attribute o m apos) [] kws pos) (tMK C m n sp idx E ta tk) := by
  subst hn
  obtain ⟨f, fd, F, hm, hb⟩ := O.ex
  refine ⟨fun pins s σ H Q I h => ?_⟩
  refine PySem.W.methodCall_KW (pl := pl) (thn (he.run pins s σ H _ I h) fun u s1 ⟨x, H1, I1, rx, a, dx, fs, ex, ea, l, q⟩ => ?_) ht
  subst ex
  obtain rfl : u = Value.ref a := rx
  refine getmeth_ok I1 ea c hm l ?_
  refine PySem.W.callWith_KW0 (first := [.ref a]) (h₀ := X.base) I.ok.mod.kin hm.kp hall ?_ hpl
  refine thn (hkw.run pos pins s1 σ H1 _ I1 q) fun ws s2 ⟨zs, H2, I2, rz, l2, q2⟩ => ⟨I2.kIn, ?_⟩
  rw [hks]
  exact run_fnMK F hr hb (hx σ) I2 rz l2 q2
/-- C() -/
theorem pe_mk0 (O : OkI CX0 X.prog X.w X.K X.mg X.base k C x ps sp) (hr : Room (k + 1) X.A) (hg : Gl X x) (hdb : (x == ("__debug__" : Str)) = false := by decide) : PE X (.Call (.Name x p) [] [] pos) (tMake C sp [] E0 tNil) := by
  obtain ⟨f, fd, F, M, hm, hb⟩ := O.ex
  exact pe_make0 M F hr hg hm hb .nil pass0 hdb
/-- nothing is raised -/
theorem no0 : ∀ σ : L2.St, PassesAt CX0 X σ ((fun _ => E0) σ) := fun _ _ _ _ _ _ _ h => h.elim
theorem noL : ∀ σ : L2.St, PassesAt (L2.CX X.prog X.w) X σ ((fun _ => E0) σ) := fun σ pins H s e s' I h => passL pins σ H s e s' I h
theorem goL {W : WX} (tk : Takes X W) : ∀ σ : L2.St, PassesAt (L2.CX X.prog X.w) X σ (WE W σ) := fun σ => passAt tk σ
end
section
variable {K : PySem.W.Frag} {C dx a p : Addr} {fs : List (Str × V)} {σ : L2.St} {H : Hp} {Q : VK} {v y : V} {f m : Str} {i : Nat} {tv : TE} {t tk : TA} {sp : Sp} {E : L2.St → XK} {n b c : L2.St → Hp → Prop} {r : VK}
theorem x_fld (hi : σ[i]? = some (some (.ref a))) (h : H a = some (.ins C dx fs)) (k : Cls K C) (na : NoAttr K C f) (l : fs.lookup f = some v) (q : Q v H) : tFld K (tVar i) f σ H Q := ⟨.ref a, hi, a, C, dx, fs, v, rfl, h, k, na, l, q⟩
theorem x_sfld (q : tv σ H fun y H1 => σ[i]? = some (some (.ref a)) ∧ H1 a = some (.ins C dx fs) ∧ Cls K C ∧ NoAttr K C f ∧ fs.length < 1000 ∧ n σ (upd H1 a (.ins C dx (putF f y fs)))) (mo : ∀ Q Q' : VK, (∀ v H, Q v H → Q' v H) → tv σ H Q → tv σ H Q') : sFld K (tVar i) tv f ⟨n, r, b, c⟩ σ H :=
  mo _ _ (fun y H1 ⟨hi, h, k, na, l, q⟩ => ⟨.ref a, hi, a, C, dx, fs, rfl, h, k, na, l, q⟩) q
theorem x_m (hi : σ[i]? = some (some (.ref a))) (h : H a = some (.ins C dx fs)) (l : fs.lookup m = none) (q : t σ H fun vs H2 => sp (.ref a :: vs) H2 Q (E σ)) : tM C m sp E (tVar i) t σ H Q := ⟨.ref a, hi, a, dx, fs, rfl, h, l, q⟩
theorem x_mK {k : Nat} {idx : List Nat} (hi : σ[i]? = some (some (.ref a))) (h : H a = some (.ins C dx fs)) (l : fs.lookup m = none) (q : tk σ H fun zs H2 => zs.length = k ∧ sp (.ref a :: idx.map fun i => zs.getD i .non) H2 Q (E σ)) : tMK C m k sp idx E (tVar i) tk σ H Q := ⟨.ref a, hi, a, dx, fs, rfl, h, l, q⟩
theorem x_mk (q : ∀ x dx, H x = none → H dx = none → dx ≠ x → sp [.ref x] (upd (upd H dx (.own x)) x (.ins C dx [])) (fun v H2 => v = .non ∧ Q (.ref x) H2) E0) : tMake C sp [] E0 tNil σ H Q := q
end
/-! ### dicts with numbers as keys -/
def rInDK : R2 := fun x y H Q => ∃ (a : Addr) (o : Option V), y = .ref a ∧ DGet H a x o ∧ Q (.bl o.isSome) H
theorem op_inDK {X : Cx} (hu : X.A.units + 1 < cLine) : OpR X (compareOp .In) rInDK := by
  intro pins s σ H x y v u Q I rx ry h
  obtain ⟨a, o, rfl, g, q⟩ := h
  obtain rfl : u = Value.ref a := ry
  exact d_in hu I g rx fun s3 I3 => ⟨.bl o.isSome, H, I3, rfl, q⟩
section
variable {H : Hp} {Q : VK} {a : Addr} {kvs : List (Key × V)} {i : Int} {v d : V} {td ty tx : TE} {σ : L2.St}
theorem x_inDK (h : H a = some (.dK kvs)) (q : Q (.bl (valV kvs (.inl i)).isSome) H) : rInDK (.int i) (.ref a) H Q := ⟨a, _, rfl, DGet.k (k := .inl i) h, q⟩
theorem x_setDK {Qh : Hp → Prop} (h : H a = some (.dK kvs)) (hl : kvs.length < 100000) (q : Qh (upd H a (.dK (putK kvs (.inl i) v)))) : rSetD (.ref a) (.int i) v H Qh := ⟨a, _, rfl, DPut.k (k := .inl i) h (szl hl), q⟩
theorem isD_k (h : H a = some (.dK kvs)) : IsD H a := .inl ⟨kvs, .inl h⟩
end
/-! ### texts -/
def rLenS : List V → Hp → VK → Prop := fun xs H Q => ∃ z, xs = [.str z] ∧ z.length ≤ sizeLine ∧ Q (.int z.length) H
theorem c_lenS {X : Cx} : CallR X (.builtin "len") rLenS := call_len_str
def repS (z : Str) (n : Nat) : Str := ⟨(List.replicate n z.cps).foldl (· ++ ·) #[]⟩
def rMulS : R2 := fun x y H Q => ∃ (z : Str) (n : Nat), x = .str z ∧ y = .int (n : Int) ∧ 2 ≤ n ∧ n ≤ 100000 ∧ 1 ≤ z.length ∧ z.length ≤ 100 ∧ Q (.str (repS z n)) H
theorem repS_len (z : Str) : ∀ n, (repS z n).length = n * z.length := by
  have gen : ∀ (n : Nat) (acc : Array Nat), ((List.replicate n z.cps).foldl (· ++ ·) acc).size = acc.size + n * z.length := by
    intro n
    induction n with
    | zero => intro acc; simp
    | succ n ih =>
      intro acc
      rw [List.replicate_succ, List.foldl_cons, ih, Array.size_append]
      show acc.size + z.length + n * z.length = acc.size + (n + 1) * z.length
      rw [Nat.add_mul]
      omega
  intro n
  show ((List.replicate n z.cps).foldl (· ++ ·) #[]).size = _
  rw [gen]
  simp
theorem op_mulS {X : Cx} : OpR X (binaryOp .Mult) rMulS := by
  intro pins s σ H x y v u Q I rx ry h
  obtain ⟨z, n, rfl, rfl, h1, h2, h3, h4, q⟩ := h
  obtain ⟨t, rfl⟩ := rx
  obtain ⟨t', rfl⟩ := ry
  have hb : z.length * n ≤ 10000000 := Nat.le_trans (Nat.mul_le_mul h4 h2) (by decide)
  have n1 : ¬ (n : Int) < 1 := by omega
  have e1 : ((n : Int) == 1 || z.length == 0) = false := by
    rw [Bool.or_eq_false_iff]
    exact ⟨beq_eq_false_iff_ne.mpr (by omega), beq_eq_false_iff_ne.mpr (by omega)⟩
  refine PySem.P.mul_str (by rw [decide_eq_false (by omega), decide_eq_false (by omega)]; rfl) (fun _ _ => ?_) (fun _ _ => ?_) ?_
  · have e : (z.length : Int) * (n : Int) = ((z.length * n : Nat) : Int) := (Int.natCast_mul _ _).symm
    have : (z.length : Int) * n ≤ 2 ^ 63 - 1 := by
      rw [e]
      generalize z.length * n = q at hb
      omega
    have := Int.le_ediv_of_mul_le (by omega : (0 : Int) < n) this
    omega
  · rw [Int.toNat_natCast]
    exact short24 (by omega)
  · rw [if_neg n1, if_neg (by rw [e1]; decide), Int.toNat_natCast]
    have hl : (repS z n).length ≤ sizeLine := by
      rw [repS_len, sizeLine_eq, Nat.mul_comm]
      omega
    exact ⟨by first | exact hl | (have := hl; simpa [repS] using this), ⟨.str (repS z n), H, I.tok _, ⟨_, rfl⟩, q⟩⟩
theorem x_lenStr {z : Str} {H : Hp} {Q : VK} (h : z.length ≤ 100000) (q : Q (.int (z.length : Int)) H) : rLenS [.str z] H Q := ⟨z, rfl, sz h, q⟩
theorem x_ixStr {z : Str} {i : Int} {c : Nat} {H : Hp} {Q : VK} (h : z.length ≤ 100000) (e : atI z.cps.toList i = some c) (q : Q (.str ⟨#[c]⟩) H) : rIxS (.str z) (.int i) H Q := ⟨z, i, c, rfl, rfl, sz h, e, q⟩
theorem x_addS {i j : Str} {H : Hp} {Q : VK} (h : i.length + j.length ≤ 100000) (q : Q (.str (i ++ j)) H) : rAddStr (.str i) (.str j) H Q := ⟨i, j, rfl, rfl, sz h, q⟩
theorem x_mulS {z : Str} {k : Int} {n : Nat} {H : Hp} {Q : VK} (hk : k = (n : Int)) (h1 : 2 ≤ n) (h2 : n ≤ 100000) (h3 : 1 ≤ z.length) (h4 : z.length ≤ 100) (q : Q (.str (repS z n)) H) : rMulS (.str z) (.int k) H Q := by
  subst hk
  exact ⟨z, n, rfl, rfl, h1, h2, h3, h4, q⟩
end Bx
namespace PySem
open Builtin Builtin.Str
open L2 (Key mixKind)
/-- a table that drops 10, says something of 37, and nothing of the rest -/
def Drops (f : Key → Option Value) : Prop := f (.inl 10) = some .none ∧ ∀ c : Nat, c ≠ 10 → c ≠ 37 → f (.inl (c : Int)) = none
section
variable {prog : Program} {w : World} {A : Around} {E : Value → Shared → Prop} {s : Shared} {d : Addr} {c : Nat}
theorem mapOfK_keeps {h h' : Heap} {a : Addr} {f : Key → Option Value} (m : h.MapOf (mixKind prog w) a f) (k : ∀ b o, h.get? b = some o → h'.get? b = some o) : h'.MapOf (mixKind prog w) a f := by
  obtain ⟨o, es, ep, ho, r⟩ := m
  exact ⟨o, es, ep, k _ _ ho, r⟩
theorem tl_drops {f : Key → Option Value} {Q : Mapped → Shared → Prop} (hh : A.handled = none) (hd : (d == sysModules) = false) (hm : s.heap.MapOf (mixKind prog w) d f) (hk : Drops f) (h37 : c ≠ 37)
    (h1 : c = 10 → ∀ h' k, (∀ b o, s.heap.get? b = some o → h'.get? b = some o) → Q .drop { s with heap := h', toks := k })
    (h2 : c ≠ 10 → ∀ h' k, (∀ b o, s.heap.get? b = some o → h'.get? b = some o) → Q .keep { s with heap := h', toks := k }) : wpAny (model prog w) A (tableLookup (.ref d) c) Q E s := by
  unfold tableLookup
  refine wpAny_bind (wpAny_attempt (wpAny_bind (wpAny_mkInt ?_)))
  by_cases hc : c = 10
  · subst hc
    refine wpAny_getItem_of (knd := mixKind prog w) (k := .inl ((10 : Nat) : Int)) (L2.kV_is (k := .inl ((10 : Nat) : Int)) ⟨_, rfl⟩) hm hk.1 ?_
    show wpAny _ _ (do let o ← asInt? Value.none; _) _ _ _
    refine wpAny_bind (wpAny_of_eq (a := none) rfl ?_)
    exact wpAny_pure (h1 rfl s.heap _ fun _ _ e => e)
  · refine wpAny_getItem_missing_of (knd := mixKind prog w) (k := .inl (c : Int)) (L2.kV_is (k := .inl (c : Int)) ⟨_, rfl⟩) hd hh hm (hk.2 c hc h37) fun h' e hx => ?_
    show wpAny _ _ (do let b ← isInstance (.ref e) (.type "LookupError"); _) _ _ _
    obtain ⟨ob, t, ho, hcl, _⟩ := hx.there
    refine wpAny_bind (wpAny_isInstance (T := "KeyError") (b := true) ⟨ob, ho, hcl⟩ key_is_lookup ?_)
    show wpAny _ _ (if true = true then (do rule "str.translate.not-in-table"; pure Mapped.keep) else _) _ _ _
    rw [if_pos rfl]
    exact wpAny_bind (wpAny_rule (wpAny_pure (h2 hc h' _ hx.keeps)))
end
/-- the signs but 10 -/
def no10 (x : List Nat) : List Nat := x.filter fun c => c != 10
theorem pieces_ones : ∀ (l : List Nat) (acc : Array Nat), List.foldl (fun acc (p : Str) => acc ++ p.cps) acc (l.map fun c => (⟨#[c]⟩ : Str)) = acc ++ l.toArray
  | [], acc => by
    show acc = acc ++ #[]
    rw [Array.append_empty]
  | c :: l, acc => by
    rw [List.map_cons, List.foldl_cons, pieces_ones l]
    apply Array.toList_inj.mp
    simp
/-- while the signs are walked -/
def DrAt (x : List Nat) (s : Shared) (rest : List Nat) (st : List Str × Nat × Bool × List (Nat × Option Nat) × Bool) (s' : Shared) : Prop :=
  ∃ (past : List Nat) (pieces : List Str) (known : List (Nat × Option Nat)) (h' : Heap) (k : Nat), x = past ++ rest ∧ st = (pieces, (no10 past).length, true, known, false) ∧ pieces.reverse = (no10 past).map (fun c => (⟨#[c]⟩ : Str)) ∧
    (∀ c a, List.lookup c known = some a → a = if c = 10 then none else some c) ∧ s' = { s with heap := h', toks := k } ∧ ∀ b o, s.heap.get? b = some o → h'.get? b = some o
theorem DrAt.keep {x : List Nat} {s : Shared} {rest past : List Nat} {c : Nat} {pieces : List Str} {known : List (Nat × Option Nat)} {h' : Heap} {k : Nat} (hc : c ≠ 10) (h1 : x = past ++ c :: rest)
    (h3 : pieces.reverse = (no10 past).map (fun c => (⟨#[c]⟩ : Str))) (h4 : ∀ c a, List.lookup c known = some a → a = if c = 10 then none else some c) (h6 : ∀ b o, s.heap.get? b = some o → h'.get? b = some o) :
    DrAt x s rest (⟨#[c]⟩ :: pieces, (no10 past).length + 1, true, known, false) { s with heap := h', toks := k } := by
  have e : no10 (past ++ [c]) = no10 past ++ [c] := by
    unfold no10
    rw [List.filter_append]
    congr 1
    simp [hc]
  refine ⟨past ++ [c], ⟨#[c]⟩ :: pieces, known, h', k, ?_, ?_, ?_, h4, rfl, h6⟩
  · rw [h1, List.append_assoc] <;> rfl
  · rw [e, List.length_append] <;> rfl
  · rw [List.reverse_cons, h3, e, List.map_append] <;> rfl
theorem DrAt.drop {x : List Nat} {s : Shared} {rest past : List Nat} {pieces : List Str} {known : List (Nat × Option Nat)} {h' : Heap} {k : Nat} (h1 : x = past ++ 10 :: rest)
    (h3 : pieces.reverse = (no10 past).map (fun c => (⟨#[c]⟩ : Str))) (h4 : ∀ c a, List.lookup c known = some a → a = if c = 10 then none else some c) (h6 : ∀ b o, s.heap.get? b = some o → h'.get? b = some o) :
    DrAt x s rest (pieces, (no10 past).length, true, known, false) { s with heap := h', toks := k } := by
  have e : no10 (past ++ [10]) = no10 past := by
    unfold no10
    rw [List.filter_append]
    simp
  refine ⟨past ++ [10], pieces, known, h', k, ?_, ?_, ?_, h4, rfl, h6⟩
  · rw [h1, List.append_assoc] <;> rfl
  · rw [e]
  · rw [e]; exact h3
theorem meets_drops {prog : Program} {w : World} (x : List Nat) (t : Tok) (d : Addr) (hd : (d == sysModules) = false) (hz : x.length ≤ 16000000) (hx : ∀ c, c ∈ x → c < 128 ∧ c ≠ 37) : MeetsIn prog w («str.translate» ⟨[.str (SX.S x) t, .ref d], []⟩) (fun A R s =>
    A.handled = none ∧ (∃ f, s.heap.MapOf (mixKind prog w) d f ∧ Drops f) ∧ ∀ (v : Value) (h' : Heap) (k : Nat), (∀ b o, s.heap.get? b = some o → h'.get? b = some o) → (∃ t', v = .str (SX.S (no10 x)) t') → R (.ok (.ret v)) { s with heap := h', toks := k }) := by
  refine .of_wp fun A R s h => ?_
  obtain ⟨hh, ⟨f, hm, hk⟩, h⟩ := h
  have hh1 : A.in1.handled = none := hh
  show wpAny _ _ (if ((SX.S x).length == 0) = true then (do rule "str.translate.empty"; ret (.str (SX.S x) t)) else (do
    let st ← forIn (SX.S x).cps (([], 0, (SX.S x).cps.all fun y => decide (y < 128), [], false) : List Str × Nat × Bool × List (Nat × Option Nat) × Bool) _
    _)) _ _ s
  by_cases h0 : ((SX.S x).length == 0) = true
  · rw [if_pos h0]
    have hx : x = [] := by
      rw [beq_iff_eq, SX.S_len] at h0
      exact List.eq_nil_of_length_eq_zero h0
    subst hx
    exact wpAny_bind (wpAny_rule (wpAny_pure ⟨_, rfl, h _ s.heap s.toks (fun _ _ e => e) ⟨t, rfl⟩⟩))
  · rw [if_neg h0]
    have hf : ((SX.S x).cps.all fun y => decide (y < 128)) = true := by
      rw [Array.all_eq_true']
      intro y hy
      have : y ∈ x := by
        have e : (SX.S x).cps.toList = x := rfl
        rw [← e]
        exact Array.mem_toList_iff.mpr hy
      exact decide_eq_true (hx y this).1
    rw [hf]
    refine wpAny_bind (MeetsSeq2.wpAny_forIn_array _ (DrAt x s) _ (fun c rest st s' hI => ?turn) (fun st s' hI => ?fin) (SX.S x).cps ([], 0, true, [], false) ?h0)
    case h0 =>
      refine ⟨[], [], [], s.heap, s.toks, ?_, rfl, rfl, fun c a z => ?_, rfl, fun _ _ e => e⟩
      · show x = [] ++ x.toArray.toList
        rw [List.toList_toArray, List.nil_append]
      · rw [List.lookup_nil] at z
        cases z
    case turn =>
      obtain ⟨past, pieces, known, h', k, e1, e2, e3, e4, e5, e6⟩ := hI
      subst e2
      subst e5
      have hc := hx c (by rw [e1]; simp)
      have hpl : (no10 past).length ≤ 16000000 := by
        have q := congrArg List.length e1
        rw [List.length_append] at q
        have : (no10 past).length ≤ past.length := List.length_filter_le _ _
        omega
      have hm' : ({ s with heap := h', toks := k } : Shared).heap.MapOf (mixKind prog w) d f := mapOfK_keeps hm e6
      show wpAny _ _ (if tooLong (no10 past).length = true then _ else (if true = true then _ else _)) _ _ _
      rw [show tooLong (no10 past).length = false from PyProof.Rows.short24 (by omega), if_neg Bool.false_ne_true, if_pos rfl]
      cases hl : List.lookup c known with
      | some a =>
        have ha := e4 c a hl
        subst ha
        refine wpAny_bind (wpAny_pure ?_)
        by_cases h10 : c = 10
        · subst h10
          rw [if_pos rfl]
          exact wpAny_pure (DrAt.drop e1 e3 e4 e6)
        · rw [if_neg h10]
          exact wpAny_pure (DrAt.keep h10 e1 e3 e4 e6)
      | none =>
        have new : ∀ b, b = (if c = 10 then none else some c) → ∀ c' a, List.lookup c' ((c, b) :: known) = some a → a = if c' = 10 then none else some c' := fun b hb c' a z => by
          rcases lookup_new z with ⟨q1, q2⟩ | q
          · rw [q2, hb, q1]
          · exact e4 c' a q
        refine wpAny_bind (tl_drops hh1 hd hm' hk hc.2 (fun h10 h2 k2 k3 => ?_) (fun h10 h2 k2 k3 => ?_))
        · subst h10
          refine wpAny_bind (wpAny_pure ?_)
          exact wpAny_pure (DrAt.drop (k := k2) (known := (10, none) :: known) e1 e3 (new none (by rw [if_pos rfl])) (fun b o z => k3 b o (e6 b o z)))
        · refine wpAny_bind (wpAny_pure ?_)
          exact wpAny_pure (DrAt.keep (k := k2) (known := (c, some c) :: known) h10 e1 e3 (new (some c) (by rw [if_neg h10])) (fun b o z => k3 b o (e6 b o z)))
    case fin =>
      obtain ⟨past, pieces, known, h', k, e1, e2, e3, e4, e5, e6⟩ := hI
      subst e2
      subst e5
      have ex : x = past := by rw [e1, List.append_nil]
      subst ex
      have lx : (no10 x).length ≤ x.length := List.length_filter_le _ _
      show wpAny _ _ (if tooLong (no10 x).length = true then _ else retStr { cps := List.foldl (fun acc (p : Str) => acc ++ p.cps) #[] pieces.reverse }) _ _ _
      rw [show tooLong (no10 x).length = false from PyProof.Rows.short24 (by omega), if_neg Bool.false_ne_true, e3, pieces_ones]
      have ev : (⟨#[] ++ (no10 x).toArray⟩ : Str) = SX.S (no10 x) := by
        rw [Array.empty_append] <;> rfl
      rw [ev]
      exact wpAny_bind (wpAny_mkStr (wpAny_pure ⟨_, rfl, h _ h' _ e6 ⟨_, rfl⟩⟩) (by rw [SX.S_len, sizeLine_eq]; omega))
end PySem
namespace Bx
open PySem PySem.Spec PyProof.Rows L2
def rTrans : V → List V → Hp → VK → Prop := fun x xs H Q => ∃ (t : List Nat) (d : Addr) (kvs : List (Key × V)), x = .str (SX.S t) ∧ xs = [.ref d] ∧ H d = some (.dK kvs) ∧ valV kvs (.inl 10) = some .non ∧ (∀ c : Nat, c ≠ 10 → c ≠ 37 → valV kvs (.inl (c : Int)) = none) ∧
  t.length ≤ 16000000 ∧ (∀ c, c ∈ t → c < 128 ∧ c ≠ 37) ∧ Q (.str (SX.S (no10 t))) H
theorem mt_trans {X : Cx} (hc : X.calm = true) : MtR X "str.translate" rTrans := by
  intro pins s σ H x xs v us Q I rx rs h
  obtain ⟨t, d, kvs, rfl, rfl, ed, k1, k2, h3, h4, h⟩ := h
  obtain ⟨tk, rfl⟩ := rx
  cases rs with
  | cons r1 rs =>
    cases rs
    cases r1
    obtain ⟨z, hd, vs, rel, dd⟩ := dk_of I.hok ed
    have f1 : valueAt vs (.inl 10) = some .none := by
      have q := rel.val (.inl 10)
      rw [k1] at q
      cases e : valueAt vs (.inl 10) with
      | none => rw [e] at q; exact q.elim
      | some u => rw [e] at q; exact congrArg some (show u = Value.none from q)
    have f2 : ∀ c : Nat, c ≠ 10 → c ≠ 37 → valueAt vs (.inl (c : Int)) = none := fun c h1 h2 => by
      have q := rel.val (.inl (c : Int))
      rw [k2 c h1 h2] at q
      cases e : valueAt vs (.inl (c : Int)) with
      | none => rfl
      | some u => rw [e] at q; exact q.elim
    refine call_meetsIn PySem.F.slot_str_translate (typeIs_str _ _ _) PySem.F.entry_str_translate (PySem.F.args_str_translate_2 _ _) (meets_drops t tk d hd h3 h4) ⟨I.ok.hd hc, ⟨_, dd.mapOf, f1, f2⟩, ?_⟩
    intro v h' k hk ⟨t', e⟩
    subst e
    exact ⟨.str _, H, I.kept (t' := k) hk, ⟨t', rfl⟩, h⟩
def rAscii : V → List V → Hp → VK → Prop := fun x xs H Q => ∃ a, x = .str a ∧ xs = [] ∧ True ∧ Q (.bl (Txt.isascii a)) H
theorem mt_ascii {X : Cx} : MtR X "str.isascii" rAscii := mt_isascii
def rPrintable : V → List V → Hp → VK → Prop := fun x xs H Q => ∃ a, x = .str a ∧ xs = [] ∧ True ∧ Q (.bl (Txt.isprintable a)) H
theorem mt_printable {X : Cx} : MtR X "str.isprintable" rPrintable := mt_isprintable
/-- signs that a cell may hold, but 37 -/
def okC (c : Nat) : Bool := c != 37 && (c == 10 || (decide (32 ≤ c) && decide (c < 127)))
def okT (z : Str) : Prop := ∀ c, c ∈ z.cps.toList → okC c = true
theorem okC_lt {c : Nat} (h : okC c = true) : c < 128 ∧ c ≠ 37 := by
  unfold okC at h
  simp only [Bool.and_eq_true, Bool.or_eq_true, bne_iff_ne, beq_iff_eq, decide_eq_true_eq] at h
  omega
theorem printable_all : ((List.range 127).all fun c => decide (c < 32) || Unicode.isPrintable c) = true := by decide +kernel
theorem print_c {c : Nat} (h : okC c = true) (h10 : c ≠ 10) : Unicode.isPrintable c = true := by
  have a := List.all_eq_true.mp printable_all c
  unfold okC at h
  simp only [Bool.and_eq_true, Bool.or_eq_true, bne_iff_ne, beq_iff_eq, decide_eq_true_eq] at h
  have z := a (List.mem_range.mpr (by omega))
  simp only [Bool.or_eq_true, decide_eq_true_eq] at z
  rcases z with z | z
  · omega
  · exact z
theorem no10_ascii {z : Str} (h : okT z) : Txt.isascii (SX.S (no10 z.cps.toList)) = true := by
  show ((no10 z.cps.toList).toArray.all _) = true
  rw [List.all_toArray, List.all_eq_true]
  intro c hc
  have := okC_lt (h c (List.mem_filter.mp hc).1)
  simpa using this.1
theorem no10_print {z : Str} (h : okT z) : Txt.isprintable (SX.S (no10 z.cps.toList)) = true := by
  show ((no10 z.cps.toList).toArray.all _) = true
  rw [List.all_toArray, List.all_eq_true]
  intro c hc
  obtain ⟨h1, h2⟩ := List.mem_filter.mp hc
  exact print_c (h c h1) (by simpa using h2)
theorem okT_add {a b : Str} (ha : okT a) (hb : okT b) : okT (a ++ b) := fun c hc => by
  have e : (a ++ b).cps.toList = a.cps.toList ++ b.cps.toList := TL.tl_append a b
  rw [e] at hc
  rcases List.mem_append.mp hc with h | h
  · exact ha c h
  · exact hb c h
end Bx
namespace Bx
open PySem PySem.Spec PyProof.Rows L2
/-! ### list(D), D a dict of the program's top -/
def rListKd (d : Addr) (ks : List V) : List V → Hp → VK → Prop := fun xs H Q => xs = [.ref d] ∧ ∀ q, H q = none → Q (.ref q) (upd H q (.lst ks))
theorem c_listKd {X : Cx} {d : Addr} {ks : List V} (hc : X.calm = true) (D : ∃ es n, KDict X.K X.w d es n ∧ es.size ≤ sizeLine ∧ Vals ks (es.toList.map (·.key))) : CallR X (.type "list") (rListKd d ks) := by
  obtain ⟨es, n, D, hz, hv⟩ := D
  intro pins s σ H xs us Q I r h
  obtain ⟨rfl, q⟩ := h
  obtain ⟨u, eu, rx⟩ := vals1 r
  subst eu
  obtain rfl : u = Value.ref d := rx
  have hat := I.kIn _ _ D.at_
  refine PySem.W.kdl_call (kdl_raw D.low ⟨rfl, rfl, rfl⟩ rfl) (I.ok.hd hc) hat hz fun h' tk acc' c' hkeep hS hacc => ?_
  have hk : Vals ks acc'.toList := by
    have hl : acc'.toList.length = es.size := by rw [Array.length_toList]; exact hacc.1
    have e : acc'.toList = es.toList.map (·.key) := by
      refine List.ext_getElem? fun j => ?_
      rw [List.getElem?_map, Array.getElem?_toList, Array.getElem?_toList]
      by_cases hj : j < es.size
      · have h1 : acc'[j]? = some (acc'[j]'(by rw [hacc.1]; exact hj)) := Array.getElem?_eq_getElem _
        obtain ⟨en, he, hv⟩ := hacc.2 j _ h1
        rw [h1, he, hv]
        rfl
      · rw [Array.getElem?_eq_none (by rw [hacc.1]; omega), Array.getElem?_eq_none (by omega)]
        rfl
    rw [e]
    exact hv
  refine ⟨.ref s.heap.objs.size, upd H s.heap.objs.size (.lst ks), I.laid hkeep (Nat.le_refl _) (show ObjOk X.prog X.w _ _ _ (.lst ks) from ⟨?_, acc'.toList, c', hk, ?_⟩), rfl, q _ (I.hok.fresh (Nat.le_refl _))⟩
  · rw [hv.length, List.length_map]
    exact hz
  · rw [Array.toArray_toList]; exact hS
theorem x_listKd {d : Addr} {ks : List V} {H : Hp} {Q : VK} (q : ∀ p H', Same H H' → H p = none → H' p = some (.lst ks) → Q (.ref p) H') : rListKd d ks [.ref d] H Q := ⟨rfl, fun p hp => q p _ (Same.new (Same.refl _) hp) hp upd_same⟩
/-! ### what no way reaches -/
def tDead : TS := fun _ _ _ => False
theorem ps_dead {X : Cx} {s : Stmt} : PS X s tDead := ⟨fun _ _ _ _ _ _ h => h.elim⟩
/-! ### while -/
theorem x_while {c : TT} {tb : TS} {σ : L2.St} {H : Hp} {n b k : L2.St → Hp → Prop} {r : VK} (Wv : Nat → L2.St → Hp → Prop) (m0 : Nat) (h0 : Wv m0 σ H)
    (turn : ∀ m σ H, Wv m σ H → c σ H fun d H1 => if d = true then ∃ N : L2.St → Hp → Prop, (∀ σ' H', N σ' H' → ∃ m', m' < m ∧ Wv m' σ' H') ∧ tb ⟨N, r, n, N⟩ σ H1 else n σ H1) : tWhile c tb ⟨n, r, b, k⟩ σ H := ⟨Wv, ⟨m0, h0⟩, turn⟩
/-! ### texts -/
def rLeS : R2 := fun x y H Q => ∃ i j, x = .str i ∧ y = .str j ∧ Q (.bl (!decide (j.cps.toList < i.cps.toList))) H
theorem op_leS {X : Cx} : OpR X (compareOp .LtE) rLeS := op_le_str
theorem x_leS {i j : Str} {H : Hp} {Q : VK} (q : Q (.bl (!decide (j.cps.toList < i.cps.toList))) H) : rLeS (.str i) (.str j) H Q := ⟨i, j, rfl, rfl, q⟩
def rDigit : V → List V → Hp → VK → Prop := fun x xs H Q => ∃ a, x = .str a ∧ xs = [] ∧ True ∧ Q (.bl (Txt.isdigit a)) H
theorem mt_digit {X : Cx} : MtR X "str.isdigit" rDigit := mt_isdigit
def rRemp : V → List V → Hp → VK → Prop := fun x xs H Q => ∃ a b, x = .str a ∧ xs = [.str b] ∧ a.length ≤ sizeLine ∧ Q (.str (Txt.removeprefix a b)) H
theorem mt_remp {X : Cx} : MtR X "str.removeprefix" rRemp := mt_removeprefix
theorem x_remp {a b : Str} {H : Hp} {Q : VK} (h : a.length ≤ 1000000) (q : Q (.str (Txt.removeprefix a b)) H) : rRemp (.str a) [.str b] H Q := ⟨a, b, rfl, rfl, Nat.le_trans h (by decide), q⟩
def rIntS : List V → Hp → VK → Prop := fun xs H Q => ∃ a n, xs = [.str a] ∧ PySem.intText? a = some n ∧ a.length ≤ 640 ∧ Q (.int n) H
theorem c_intS {X : Cx} : CallR X (.type "int") rIntS := call_int_str
theorem x_intS {a : Str} {n : Int} {H : Hp} {Q : VK} (h : PySem.intText? a = some n) (l : a.length ≤ 640) (q : Q (.int n) H) : rIntS [.str a] H Q := ⟨a, n, rfl, h, l, q⟩
/-! ### C(e, ..) -/
section
variable {X : Cx} {k : Nat} {C : Addr} {x : Str} {ps : List Str} {sp : Sp} {e : Expr} {es : List Expr} {t : TA} {p pos : Pos}
theorem pe_mkA (O : OkI CX0 X.prog X.w X.K X.mg X.base k C x ps sp) (hr : Room (k + 1) X.A) (hg : Gl X x) (ha : PA X (e :: es) t) (hdb : (x == ("__debug__" : Str)) = false := by decide)
    (he : starEach (e :: es) X.env = (false, eval e X.env) :: starEach es X.env := by rfl) (hpl : (backTo pos (starEach es X.env)).any (·.1) = false := by rfl) : PE X (.Call (.Name x p) (e :: es) [] pos) (tMake C sp [] E0 t) := by
  obtain ⟨f, fd, F, M, hm, hb⟩ := O.ex
  exact pe_make M F hr hg hm hb .nil pass0 ha hdb he hpl
theorem x_mkA {σ : L2.St} {H : Hp} {Q : VK} (q : t σ H fun vs H1 => ∀ x dx, H1 x = none → H1 dx = none → dx ≠ x → sp (.ref x :: (vs ++ [])) (upd (upd H1 dx (.own x)) x (.ins C dx [])) (fun v H2 => v = .non ∧ Q (.ref x) H2) E0) : tMake C sp [] E0 t σ H Q := q
end
theorem x_neS {K : PySem.W.Frag} {x y : Str} {H : Hp} {Q : VK} (q : Q (.bl (!decide (x = y))) H) : rNeX K (.str x) (.str y) H Q := .inl ⟨rfl, by
  have e : decide (V.str x = V.str y) = decide (x = y) := by by_cases z : x = y <;> simp [z]
  rw [e]; exact q⟩
/-! ### f(k = e), f may raise, nothing is raised -/
theorem pe_cXK0 {X : Cx} {k m : Nat} {x : Str} {ps ks : List Str} {sp : Sp} {idx : List Nat} {kws : List Keyword} {tk : TA} {p pos : Pos} (O : OkXK X.prog X.w X.K X.mg X.base k x ps sp 0 ks idx) (hr : Room k X.A) (hg : Gl X x) (hkw : PK X kws tk)
    (hall : (backToKw pos (keywordEach kws X.env)).all (·.1.isSome) = true := by rfl) (hks : (backToKw pos (keywordEach kws X.env)).filterMap (·.1) = ks := by rfl)
    (hdb : (x == ("__debug__" : Str)) = false := by decide) (hm : ks.length = m := by rfl) (hpl : ((backTo pos (starEach [] X.env)).any (·.1) || (backToKw pos (keywordEach kws X.env)).any (·.1.isNone)) = false := by rfl) :
    PE X (.Call (.Name x p) [] kws pos) (tCallOK 0 m sp idx tNil tk) := by
  subst hm
  obtain ⟨f, fd, F, hmg, hk, hb⟩ := O.kbn
  refine ⟨fun pins s σ H Q I h => ?_⟩
  refine wpAny_Call_Name_kw (ld_glob I hg hmg ?_ hdb)
  refine PySem.W.callWith_KW0 (h₀ := X.base) I.ok.mod.kin hk hall ?_ hpl
  refine thn (hkw.run pos pins s σ H _ I h) fun ws s2 ⟨zs, H2, I2, rz, l1, l2, q2⟩ => ⟨I2.kIn, ?_⟩
  rw [hks]
  exact run_fnN (us := []) F hr hb passL I2 .nil rz l1 l2 q2
end Bx
namespace Bx
open PySem L2
/-! ### one sign, or none, in a text -/
def rInS1 : R2 := fun x y H Q => (∃ (c : Nat) (z : Str), x = .str ⟨#[c]⟩ ∧ y = .str z ∧ Q (.bl (decide (c ∈ z.cps.toList))) H) ∨ ∃ z : Str, x = .str Str.empty ∧ y = .str z ∧ Q (.bl true) H
theorem op_inS1 {X : Cx} : OpR X (compareOp .In) rInS1 := by
  intro pins s σ H x y v u Q I rx ry h
  rcases h with h | ⟨z, rfl, rfl, q⟩
  · exact op_in_sign pins s σ H _ _ _ _ Q I rx ry h
  · obtain ⟨t, rfl⟩ := rx
    obtain ⟨t', rfl⟩ := ry
    refine PyProof.Rows.in_str (fin_bl I q ?_)
    refine ((PySem.StrLaws.found_iff z Str.empty).mpr ⟨0, Nat.zero_le _, ?_⟩).symm
    rw [StrLaws.subAt_eq]
    rfl
theorem x_inS1 {c : Nat} {z : Str} {H : Hp} {Q : VK} (q : Q (.bl (decide (c ∈ z.cps.toList))) H) : rInS1 (.str ⟨#[c]⟩) (.str z) H Q := .inl ⟨c, z, rfl, rfl, q⟩
theorem x_inS0 {z : Str} {H : Hp} {Q : VK} (q : Q (.bl true) H) : rInS1 (.str Str.empty) (.str z) H Q := .inr ⟨z, rfl, rfl, q⟩
/-! ### z * n, n = 0 and n = 1 too -/
def rMulS0 : R2 := fun x y H Q => ∃ (z : Str) (n : Nat), x = .str z ∧ y = .int (n : Int) ∧ n ≤ 100000 ∧ 1 ≤ z.length ∧ z.length ≤ 100 ∧ Q (.str (repS z n)) H
theorem op_mulS0 {X : Cx} : OpR X (binaryOp .Mult) rMulS0 := by
  intro pins s σ H x y v u Q I rx ry h
  obtain ⟨z, n, rfl, rfl, h2, h3, h4, q⟩ := h
  by_cases c : 2 ≤ n
  · exact op_mulS pins s σ H _ _ _ _ Q I rx ry ⟨z, n, rfl, rfl, c, h2, h3, h4, q⟩
  · obtain ⟨t, rfl⟩ := rx
    obtain ⟨t', rfl⟩ := ry
    match n, c, q with
    | 0, _, q =>
      refine PySem.P.mul_str (by decide) (fun h _ => absurd (by decide) h) (fun h _ => absurd (by decide) h) ?_
      rw [if_pos (by decide)]
      exact ⟨Nat.zero_le _, ⟨.str Str.empty, H, I.tok _, ⟨_, rfl⟩, q⟩⟩
    | 1, _, q =>
      refine PySem.P.mul_str (by decide) (fun _ e => nomatch e) (fun _ e => nomatch e) ?_
      rw [if_neg (by decide), if_pos (by rfl)]
      have e : repS z 1 = z := by
        show (⟨#[] ++ z.cps⟩ : Str) = z
        rw [Array.empty_append]
      rw [e] at q
      exact ⟨.str z, H, I, ⟨_, rfl⟩, q⟩
    | n + 2, c, _ => exact absurd (by omega) c
theorem x_mulS0 {z : Str} {k : Int} {n : Nat} {H : Hp} {Q : VK} (hk : k = (n : Int)) (h2 : n ≤ 100000) (h3 : 1 ≤ z.length) (h4 : z.length ≤ 100) (q : Q (.str (repS z n)) H) : rMulS0 (.str z) (.int k) H Q := by
  subst hk
  exact ⟨z, n, rfl, rfl, h2, h3, h4, q⟩
theorem repS_sp (n : Nat) : (repS " " n).cps.toList = List.replicate n 32 := by
  have e : (" " : Str).cps = #[32] := by decide +kernel
  have gen : ∀ (n : Nat) (acc : Array Nat), ((List.replicate n #[32]).foldl (· ++ ·) acc).toList = acc.toList ++ List.replicate n 32 := by
    intro n
    induction n with
    | zero => intro acc; simp
    | succ n ih =>
      intro acc
      rw [List.replicate_succ, List.foldl_cons, ih, List.replicate_succ, Array.toList_append, List.append_assoc]
      rfl
  show ((List.replicate n (" " : Str).cps).foldl (· ++ ·) #[]).toList = _
  rw [e, gen]
  rfl
end Bx
namespace Bx
open PySem L2
local macro_rules | `(tactic| walk_at "st") => `(tactic| first
  | (with_reducible refine x_seq ?_)
  | (with_reducible refine x_asg ?_)
  | (with_reducible refine x_ret ?_)
  | (with_reducible refine x_drop ?_)
  | (with_reducible refine x_ifS ?_)
  | (with_reducible refine x_next ?_)
  | (with_reducible refine x_gName ?_)
  | ((with_reducible refine x_var (v := ?v) ?hv ?qv); (case hv => rfl))
  | (with_reducible refine x_c ?_)
  | (with_reducible refine x_op ?_)
  | (with_reducible refine x_un ?_)
  | (with_reducible refine x_sub ?_)
  | (with_reducible refine x_lt ?_)
  | (with_reducible refine x_le ?_)
  | (with_reducible refine x_gt ?_)
  | (with_reducible refine x_ge ?_)
  | (with_reducible refine x_neg ?_)
  | (with_reducible refine x_isN ?_)
  | (with_reducible refine x_notN ?_)
  | (with_reducible refine x_abs ?_)
  | (with_reducible refine x_addI ?_)
  | (with_reducible refine x_eqI ?_)
  | (with_reducible refine x_neI ?_)
  | (with_reducible refine x_test ?_)
  | (with_reducible refine x_tB ?_)
  | (with_reducible refine x_isB ?_)
  | (with_reducible refine x_and ?_)
  | (with_reducible refine x_or ?_)
  | (with_reducible refine x_not ?_)
  | (with_reducible refine x_andV ?_)
  | (with_reducible refine x_orV ?_)
  | (with_reducible refine x_notV ?_)
  | (with_reducible refine x_chain ?_)
  | (with_reducible refine x_ifE ?_)
  | (with_reducible refine x_cons ?_)
  | (with_reducible refine x_nil ?_)
  | (with_reducible refine x_tup ?_)
  | (with_reducible refine x_lst ?_)
  | (with_reducible refine x_cb ?_)
  | (with_reducible refine x_call ?_)
  | (with_reducible refine x_callK ?_)
  | (with_reducible refine x_callS ?_)
  | (with_reducible refine x_callSK ?_)
  | (with_reducible refine x_sl ?_)
  | (with_reducible refine x_no ?_)
  | (with_reducible refine x_part ?_)
  | (with_reducible refine x_exI ?_)
  | (with_reducible refine x_bm ?_)
  | (with_reducible refine x_gSub ?_)
  | (with_reducible refine x_gCons ?_)
  | (with_reducible refine x_gNil ?_)
  | (with_reducible refine x_iteT ?_)
  | (with_reducible refine x_iteF ?_)
  | (with_reducible refine x_iteNT ?_)
  | (with_reducible refine x_iteNF ?_)
  | (with_reducible refine x_int1 ?_)
  | (with_reducible refine x_max2 ?_)
  | (with_reducible refine x_min2 ?_)
  | (with_reducible refine x_forX ?_)
  | (with_reducible refine x_forR ?_)
  | (with_reducible refine x_lcX ?_)
  | (with_reducible refine x_lcR ?_)
  | (with_reducible refine x_tYes ?_)
  | (with_reducible refine x_forZ ?_)
  | (with_reducible refine x_lcZ ?_)
  | (with_reducible refine x_max3 ?_)
  | (with_reducible refine x_brk ?_))
local macro_rules | `(tactic| walk_at "sts") => `(tactic| repeat (walk_at "st"))
local macro_rules | `(tactic| walk_at "isa") => `(tactic| first | rfl | (dsimp only [Da.isa]; decide))
local macro_rules | `(tactic| walk_at "rp") => `(tactic| first
  | assumption
  | exact Rp.int _ | exact Rp.non | exact Rp.bl _ | exact Rp.str _
  | ((refine Rp.same (H := ?Ha) ?ra ?rb); (case rb => assumption); (case ra => walk_at "rp"))
  | ((refine Rp.kp (H := ?Ha) ?ra ?rb); (case rb => assumption); (case ra => walk_at "rp")))
local macro_rules | `(tactic| walk_at "rps") => `(tactic| first
  | exact Rps.nil
  | ((refine Rps.cons ?ra ?rb); (case ra => walk_at "rp"); (case rb => walk_at "rps")))
local macro_rules | `(tactic| walk_at "wd") => `(tactic| first
  | assumption
  | ((refine Wd.same (H := ?Ha) ?ra ?rb); (case rb => assumption); (case ra => walk_at "wd")))
local macro_rules | `(tactic| walk_at "len") => `(tactic| first | exact Nat.le_of_ble_eq_true rfl | (simp; done) | (simp; omega))

def top (i : Nat) : Stmt := PySem.Challenge.pw_boundstead_k95_spaces_between_tokens.main.body.getD i (.Pass ⟨0, 0, 0, 0⟩)
abbrev s_run_end : Stmt := top 6
abbrev N_run_end : List Str := ["text", "at", "first", "last"]
theorem sc_run_end : FnScope N_run_end ["text", "at", "first", "last"] (defScope s_run_end) := ⟨rfl, rfl, rfl, by decide +kernel, rfl, by decide +kernel, by decide +kernel⟩
abbrev s_token_end : Stmt := top 7
abbrev N_token_end : List Str := ["text", "at", "digits", "end"]
theorem sc_token_end : FnScope N_token_end ["text", "at"] (defScope s_token_end) := ⟨rfl, rfl, rfl, by decide +kernel, rfl, by decide +kernel, by decide +kernel⟩
abbrev s_is_number : Stmt := top 8
abbrev N_is_number : List Str := ["token", "digits"]
theorem sc_is_number : FnScope N_is_number ["token"] (defScope s_is_number) := ⟨rfl, rfl, rfl, by decide +kernel, rfl, by decide +kernel, by decide +kernel⟩
abbrev s_Reader____init__ : Stmt := sub (top 9) 0
abbrev N_Reader____init__ : List Str := ["self", "text"]
theorem sc_Reader____init__ : FnScope N_Reader____init__ ["self", "text"] (defScope s_Reader____init__) := ⟨rfl, rfl, rfl, by decide +kernel, rfl, by decide +kernel, by decide +kernel⟩
abbrev s_Reader__due : Stmt := sub (top 9) 1
abbrev N_Reader__due : List Str := ["self"]
theorem sc_Reader__due : FnScope N_Reader__due ["self"] (defScope s_Reader__due) := ⟨rfl, rfl, rfl, by decide +kernel, rfl, by decide +kernel, by decide +kernel⟩
abbrev s_Reader__take : Stmt := sub (top 9) 2
abbrev N_Reader__take : List Str := ["self", "tokens", "token"]
theorem sc_Reader__take : FnScope N_Reader__take ["self", "tokens"] (defScope s_Reader__take) := ⟨rfl, rfl, rfl, by decide +kernel, rfl, by decide +kernel, by decide +kernel⟩
abbrev s_Reader__take_number : Stmt := sub (top 9) 3
abbrev N_Reader__take_number : List Str := ["self", "token"]
theorem sc_Reader__take_number : FnScope N_Reader__take_number ["self"] (defScope s_Reader__take_number) := ⟨rfl, rfl, rfl, by decide +kernel, rfl, by decide +kernel, by decide +kernel⟩
abbrev s_Reader__finish : Stmt := sub (top 9) 4
abbrev N_Reader__finish : List Str := ["self"]
theorem sc_Reader__finish : FnScope N_Reader__finish ["self"] (defScope s_Reader__finish) := ⟨rfl, rfl, rfl, by decide +kernel, rfl, by decide +kernel, by decide +kernel⟩
abbrev s_Reader___pass : Stmt := sub (top 9) 5
abbrev N_Reader___pass : List Str := ["self", "token"]
theorem sc_Reader___pass : FnScope N_Reader___pass ["self", "token"] (defScope s_Reader___pass) := ⟨rfl, rfl, rfl, by decide +kernel, rfl, by decide +kernel, by decide +kernel⟩
abbrev s_read_number : Stmt := top 12
abbrev N_read_number : List Str := ["reader"]
theorem sc_read_number : FnScope N_read_number ["reader"] (defScope s_read_number) := ⟨rfl, rfl, rfl, by decide +kernel, rfl, by decide +kernel, by decide +kernel⟩
abbrev s_read_pair : Stmt := top 13
abbrev N_read_pair : List Str := ["reader", "low"]
theorem sc_read_pair : FnScope N_read_pair ["reader"] (defScope s_read_pair) := ⟨rfl, rfl, rfl, by decide +kernel, rfl, by decide +kernel, by decide +kernel⟩
abbrev s_read_series : Stmt := top 14
abbrev N_read_series : List Str := ["reader", "read_one", "parts"]
theorem sc_read_series : FnScope N_read_series ["reader", "read_one"] (defScope s_read_series) := ⟨rfl, rfl, rfl, by decide +kernel, rfl, by decide +kernel, by decide +kernel⟩
abbrev s_read_list : Stmt := top 15
abbrev N_read_list : List Str := ["reader"]
theorem sc_read_list : FnScope N_read_list ["reader"] (defScope s_read_list) := ⟨rfl, rfl, rfl, by decide +kernel, rfl, by decide +kernel, by decide +kernel⟩
abbrev s_read_box : Stmt := top 16
abbrev N_read_box : List Str := ["reader"]
theorem sc_read_box : FnScope N_read_box ["reader"] (defScope s_read_box) := ⟨rfl, rfl, rfl, by decide +kernel, rfl, by decide +kernel, by decide +kernel⟩
abbrev s_read_after : Stmt := top 17
abbrev N_read_after : List Str := ["reader", "word", "read_one"]
theorem sc_read_after : FnScope N_read_after ["reader", "word", "read_one"] (defScope s_read_after) := ⟨rfl, rfl, rfl, by decide +kernel, rfl, by decide +kernel, by decide +kernel⟩
abbrev s_read_put : Stmt := top 18
abbrev N_read_put : List Str := ["reader", "key", "box", "speed"]
theorem sc_read_put : FnScope N_read_put ["reader"] (defScope s_read_put) := ⟨rfl, rfl, rfl, by decide +kernel, rfl, by decide +kernel, by decide +kernel⟩
abbrev s_read_drop : Stmt := top 19
abbrev N_read_drop : List Str := ["reader"]
theorem sc_read_drop : FnScope N_read_drop ["reader"] (defScope s_read_drop) := ⟨rfl, rfl, rfl, by decide +kernel, rfl, by decide +kernel, by decide +kernel⟩
abbrev s_read_turn : Stmt := top 20
abbrev N_read_turn : List Str := ["reader", "key", "time"]
theorem sc_read_turn : FnScope N_read_turn ["reader"] (defScope s_read_turn) := ⟨rfl, rfl, rfl, by decide +kernel, rfl, by decide +kernel, by decide +kernel⟩
abbrev s_read_condition : Stmt := top 21
abbrev N_read_condition : List Str := ["reader", "word"]
theorem sc_read_condition : FnScope N_read_condition ["reader"] (defScope s_read_condition) := ⟨rfl, rfl, rfl, by decide +kernel, rfl, by decide +kernel, by decide +kernel⟩
abbrev s_read_conditions : Stmt := top 22
abbrev N_read_conditions : List Str := ["reader", "conditions"]
theorem sc_read_conditions : FnScope N_read_conditions ["reader"] (defScope s_read_conditions) := ⟨rfl, rfl, rfl, by decide +kernel, rfl, by decide +kernel, by decide +kernel⟩
abbrev s_read_conditional : Stmt := top 23
abbrev N_read_conditional : List Str := ["reader", "conditions"]
theorem sc_read_conditional : FnScope N_read_conditional ["reader"] (defScope s_read_conditional) := ⟨rfl, rfl, rfl, by decide +kernel, rfl, by decide +kernel, by decide +kernel⟩
abbrev s_read_nearest : Stmt := top 24
abbrev N_read_nearest : List Str := ["reader", "many", "box"]
theorem sc_read_nearest : FnScope N_read_nearest ["reader"] (defScope s_read_nearest) := ⟨rfl, rfl, rfl, by decide +kernel, rfl, by decide +kernel, by decide +kernel⟩
abbrev s_read_skyline : Stmt := top 25
abbrev N_read_skyline : List Str := ["reader"]
theorem sc_read_skyline : FnScope N_read_skyline ["reader"] (defScope s_read_skyline) := ⟨rfl, rfl, rfl, by decide +kernel, rfl, by decide +kernel, by decide +kernel⟩
abbrev s_read_during : Stmt := top 26
abbrev N_read_during : List Str := ["reader", "box", "start"]
theorem sc_read_during : FnScope N_read_during ["reader"] (defScope s_read_during) := ⟨rfl, rfl, rfl, by decide +kernel, rfl, by decide +kernel, by decide +kernel⟩
abbrev s_read_first : Stmt := top 27
abbrev N_read_first : List Str := ["reader", "box", "speed", "start", "_"]
theorem sc_read_first : FnScope N_read_first ["reader"] (defScope s_read_first) := ⟨rfl, rfl, rfl, by decide +kernel, rfl, by decide +kernel, by decide +kernel⟩
abbrev s_read_nothing : Stmt := top 28
abbrev N_read_nothing : List Str := ["_"]
theorem sc_read_nothing : FnScope N_read_nothing ["_"] (defScope s_read_nothing) := ⟨rfl, rfl, rfl, by decide +kernel, rfl, by decide +kernel, by decide +kernel⟩
abbrev s_parse : Stmt := top 30
abbrev N_parse : List Str := ["text", "reader", "word", "read_parts", "parts"]
theorem sc_parse : FnScope N_parse ["text"] (defScope s_parse) := ⟨rfl, rfl, rfl, by decide +kernel, rfl, by decide +kernel, by decide +kernel⟩
abbrev s__law_so : Stmt := top 32
abbrev N__law_so : List Str := ["found", "meant", "k"]
theorem sc__law_so : FnScope N__law_so ["found", "meant"] (defScope s__law_so) := ⟨rfl, rfl, rfl, by decide +kernel, rfl, by decide +kernel, by decide +kernel⟩
abbrev s__law_numbers : Stmt := top 33
abbrev N__law_numbers : List Str := ["script", "row", "cell", "left", "k", "mixed"]
theorem sc__law_numbers : FnScope N__law_numbers ["script"] (defScope s__law_numbers) := ⟨rfl, rfl, rfl, by decide +kernel, rfl, by decide +kernel, by decide +kernel⟩
abbrev s__law_draw : Stmt := top 34
abbrev N__law_draw : List Str := ["row", "at", "limit", "mixed"]
theorem sc__law_draw : FnScope N__law_draw ["row", "at", "limit"] (defScope s__law_draw) := ⟨rfl, rfl, rfl, by decide +kernel, rfl, by decide +kernel, by decide +kernel⟩
abbrev s__law_take : Stmt := top 35
abbrev N__law_take : List Str := ["row", "spot", "limit"]
theorem sc__law_take : FnScope N__law_take ["row", "spot", "limit"] (defScope s__law_take) := ⟨rfl, rfl, rfl, by decide +kernel, rfl, by decide +kernel, by decide +kernel⟩
abbrev s__law_wide : Stmt := top 36
abbrev N__law_wide : List Str := ["row", "spot", "limit", "first", "second", "third"]
theorem sc__law_wide : FnScope N__law_wide ["row", "spot", "limit"] (defScope s__law_wide) := ⟨rfl, rfl, rfl, by decide +kernel, rfl, by decide +kernel, by decide +kernel⟩
abbrev s__law_figure : Stmt := top 37
abbrev N__law_figure : List Str := ["row", "spot", "small", "great"]
theorem sc__law_figure : FnScope N__law_figure ["row", "spot"] (defScope s__law_figure) := ⟨rfl, rfl, rfl, by decide +kernel, rfl, by decide +kernel, by decide +kernel⟩
abbrev s__law_any_box : Stmt := top 38
abbrev N__law_any_box : List Str := ["row", "spot", "made", "k", "low"]
theorem sc__law_any_box : FnScope N__law_any_box ["row", "spot"] (defScope s__law_any_box) := ⟨rfl, rfl, rfl, by decide +kernel, rfl, by decide +kernel, by decide +kernel⟩
abbrev s__law_any_list : Stmt := top 39
abbrev N__law_any_list : List Str := ["row", "spot", "many", "k"]
theorem sc__law_any_list : FnScope N__law_any_list ["row", "spot", "many"] (defScope s__law_any_list) := ⟨rfl, rfl, rfl, by decide +kernel, rfl, by decide +kernel, by decide +kernel⟩
abbrev s__law_statement : Stmt := top 40
abbrev N__law_statement : List Str := ["row", "spot", "kind", "box", "one", "other", "drift", "wants", "k", "made"]
theorem sc__law_statement : FnScope N__law_statement ["row", "spot"] (defScope s__law_statement) := ⟨rfl, rfl, rfl, by decide +kernel, rfl, by decide +kernel, by decide +kernel⟩
abbrev s__law_box_text : Stmt := top 41
abbrev N__law_box_text : List Str := ["box", "made", "pair"]
theorem sc__law_box_text : FnScope N__law_box_text ["box"] (defScope s__law_box_text) := ⟨rfl, rfl, rfl, by decide +kernel, rfl, by decide +kernel, by decide +kernel⟩
abbrev s__law_list_text : Stmt := top 42
abbrev N__law_list_text : List Str := ["numbers", "one"]
theorem sc__law_list_text : FnScope N__law_list_text ["numbers"] (defScope s__law_list_text) := ⟨rfl, rfl, rfl, by decide +kernel, rfl, by decide +kernel, by decide +kernel⟩
abbrev s__law_wants_text : Stmt := top 43
abbrev N__law_wants_text : List Str := ["wants", "want"]
theorem sc__law_wants_text : FnScope N__law_wants_text ["wants"] (defScope s__law_wants_text) := ⟨rfl, rfl, rfl, by decide +kernel, rfl, by decide +kernel, by decide +kernel⟩
abbrev s__law_print : Stmt := top 44
abbrev N__law_print : List Str := ["told", "name", "still", "drift", "one"]
theorem sc__law_print : FnScope N__law_print ["told"] (defScope s__law_print) := ⟨rfl, rfl, rfl, by decide +kernel, rfl, by decide +kernel, by decide +kernel⟩
abbrev s__law_run : Stmt := top 45
abbrev N__law_run : List Str := ["text", "at", "letters", "end", "k"]
theorem sc__law_run : FnScope N__law_run ["text", "at", "letters"] (defScope s__law_run) := ⟨rfl, rfl, rfl, by decide +kernel, rfl, by decide +kernel, by decide +kernel⟩
abbrev s__law_tokens : Stmt := top 46
abbrev N__law_tokens : List Str := ["text", "made", "at", "k", "start", "digits", "bad"]
theorem sc__law_tokens : FnScope N__law_tokens ["text"] (defScope s__law_tokens) := ⟨rfl, rfl, rfl, by decide +kernel, rfl, by decide +kernel, by decide +kernel⟩
abbrev s__law_expect : Stmt := top 47
abbrev N__law_expect : List Str := ["state", "kind", "word", "token"]
theorem sc__law_expect : FnScope N__law_expect ["state", "kind", "word"] (defScope s__law_expect) := ⟨rfl, rfl, rfl, by decide +kernel, rfl, by decide +kernel, by decide +kernel⟩
abbrev s__law_is_next : Stmt := top 48
abbrev N__law_is_next : List Str := ["state", "word"]
theorem sc__law_is_next : FnScope N__law_is_next ["state", "word"] (defScope s__law_is_next) := ⟨rfl, rfl, rfl, by decide +kernel, rfl, by decide +kernel, by decide +kernel⟩
abbrev s__law_read_list : Stmt := top 49
abbrev N__law_read_list : List Str := ["state", "pairs", "made", "k", "low", "high"]
theorem sc__law_read_list : FnScope N__law_read_list ["state", "pairs"] (defScope s__law_read_list) := ⟨rfl, rfl, rfl, by decide +kernel, rfl, by decide +kernel, by decide +kernel⟩
abbrev s__law_read_after : Stmt := top 50
abbrev N__law_read_after : List Str := ["state", "word"]
theorem sc__law_read_after : FnScope N__law_read_after ["state", "word"] (defScope s__law_read_after) := ⟨rfl, rfl, rfl, by decide +kernel, rfl, by decide +kernel, by decide +kernel⟩
abbrev s__law_read_speed : Stmt := top 51
abbrev N__law_read_speed : List Str := ["state", "other"]
theorem sc__law_read_speed : FnScope N__law_read_speed ["state", "other"] (defScope s__law_read_speed) := ⟨rfl, rfl, rfl, by decide +kernel, rfl, by decide +kernel, by decide +kernel⟩
abbrev s__law_read_wants : Stmt := top 52
abbrev N__law_read_wants : List Str := ["state", "made", "k", "word"]
theorem sc__law_read_wants : FnScope N__law_read_wants ["state"] (defScope s__law_read_wants) := ⟨rfl, rfl, rfl, by decide +kernel, rfl, by decide +kernel, by decide +kernel⟩
abbrev s__law_read : Stmt := top 53
abbrev N__law_read : List Str := ["state", "name", "key", "box", "time", "wants", "many", "drift", "start", "end", "pair"]
theorem sc__law_read : FnScope N__law_read ["state"] (defScope s__law_read) := ⟨rfl, rfl, rfl, by decide +kernel, rfl, by decide +kernel, by decide +kernel⟩
abbrev s__law_parsed : Stmt := top 54
abbrev N__law_parsed : List Str := ["text", "state", "made"]
theorem sc__law_parsed : FnScope N__law_parsed ["text"] (defScope s__law_parsed) := ⟨rfl, rfl, rfl, by decide +kernel, rfl, by decide +kernel, by decide +kernel⟩
abbrev s__law_spaced : Stmt := top 55
abbrev N__law_spaced : List Str := ["row", "spot", "text", "made", "token", "gap"]
theorem sc__law_spaced : FnScope N__law_spaced ["row", "spot", "text"] (defScope s__law_spaced) := ⟨rfl, rfl, rfl, by decide +kernel, rfl, by decide +kernel, by decide +kernel⟩
abbrev s_law : Stmt := top 56
abbrev N_law : List Str := ["script", "row", "spot", "again", "told", "text"]
theorem sc_law : FnScope N_law ["script"] (defScope s_law) := ⟨rfl, rfl, rfl, by decide +kernel, rfl, by decide +kernel, by decide +kernel⟩
structure Txt (K : PySem.W.Frag) (mg : Str → Option Value) (w : World) (D_READERS : Addr) (D_WORDS : Addr) (V_read_box : Addr) (V_read_condition : Addr) (V_read_conditional : Addr) (V_read_drop : Addr) (V_read_during : Addr) (V_read_first : Addr) (V_read_list : Addr) (V_read_nearest : Addr) (V_read_nothing : Addr) (V_read_number : Addr) (V_read_pair : Addr) (V_read_put : Addr) (V_read_skyline : Addr) (V_read_turn : Addr) (C_Reader : Addr) (tk_ALL : Tok) (tk_MOST_DIGITS : Tok) : Prop where
  c_ALL : mg "ALL" = some (.str "all" tk_ALL)
  c_MOST_DIGITS : mg "MOST_DIGITS" = some (.int 12 tk_MOST_DIGITS)
  f_Reader_at : NoAttr K C_Reader "_at"
  f_Reader_text : NoAttr K C_Reader "_text"
  km_READERS : mg "READERS" = some (.ref D_READERS)
  kd_READERS : ∃ es n, KDict K w D_READERS es n
  kk_READERS : ∃ es n, KDict K w D_READERS es n ∧ es.size ≤ sizeLine ∧ Vals [.str "put", .str "drop", .str "turn", .str "select", .str "count", .str "nearest", .str "skyline", .str "during", .str "first", .str "commit", .str "rollback"] (es.toList.map (·.key))
  ke_READERS_put : PySem.W.nsIn K D_READERS "put" = some (some (.ref V_read_put))
  ke_READERS_drop : PySem.W.nsIn K D_READERS "drop" = some (some (.ref V_read_drop))
  ke_READERS_turn : PySem.W.nsIn K D_READERS "turn" = some (some (.ref V_read_turn))
  ke_READERS_select : PySem.W.nsIn K D_READERS "select" = some (some (.ref V_read_conditional))
  ke_READERS_count : PySem.W.nsIn K D_READERS "count" = some (some (.ref V_read_conditional))
  ke_READERS_nearest : PySem.W.nsIn K D_READERS "nearest" = some (some (.ref V_read_nearest))
  ke_READERS_skyline : PySem.W.nsIn K D_READERS "skyline" = some (some (.ref V_read_skyline))
  ke_READERS_during : PySem.W.nsIn K D_READERS "during" = some (some (.ref V_read_during))
  ke_READERS_first : PySem.W.nsIn K D_READERS "first" = some (some (.ref V_read_first))
  ke_READERS_commit : PySem.W.nsIn K D_READERS "commit" = some (some (.ref V_read_nothing))
  ke_READERS_rollback : PySem.W.nsIn K D_READERS "rollback" = some (some (.ref V_read_nothing))
  km_WORDS : mg "WORDS" = some (.ref D_WORDS)
  kt_WORDS : ∀ H : Hp, SqT K H D_WORDS [.str "meets", .str "inside", .str "covers"]
  b_bool : mg "bool" = none
  b_int : mg "int" = none
  b_isinstance : mg "isinstance" = none
  b_len : mg "len" = none
  b_list : mg "list" = none
  b_range : mg "range" = none
  b_str : mg "str" = none
  b_tuple : mg "tuple" = none
  o_Reader : Cls K C_Reader
  kv_read_box : mg "read_box" = some (.ref V_read_box)
  kv_read_condition : mg "read_condition" = some (.ref V_read_condition)
  kv_read_conditional : mg "read_conditional" = some (.ref V_read_conditional)
  kv_read_drop : mg "read_drop" = some (.ref V_read_drop)
  kv_read_during : mg "read_during" = some (.ref V_read_during)
  kv_read_first : mg "read_first" = some (.ref V_read_first)
  kv_read_list : mg "read_list" = some (.ref V_read_list)
  kv_read_nearest : mg "read_nearest" = some (.ref V_read_nearest)
  kv_read_nothing : mg "read_nothing" = some (.ref V_read_nothing)
  kv_read_number : mg "read_number" = some (.ref V_read_number)
  kv_read_pair : mg "read_pair" = some (.ref V_read_pair)
  kv_read_put : mg "read_put" = some (.ref V_read_put)
  kv_read_skyline : mg "read_skyline" = some (.ref V_read_skyline)
  kv_read_turn : mg "read_turn" = some (.ref V_read_turn)
section
variable {P : Program} {w : World} {K : PySem.W.Frag} {mg : Str → Option Value} {base : Heap} {D_READERS : Addr} {D_WORDS : Addr} {V_read_box : Addr} {V_read_condition : Addr} {V_read_conditional : Addr} {V_read_drop : Addr} {V_read_during : Addr} {V_read_first : Addr} {V_read_list : Addr} {V_read_nearest : Addr} {V_read_nothing : Addr} {V_read_number : Addr} {V_read_pair : Addr} {V_read_put : Addr} {V_read_skyline : Addr} {V_read_turn : Addr} {C_Reader : Addr} {tk_ALL : Tok} {tk_MOST_DIGITS : Tok}
def t_run_end (K : PySem.W.Frag) : TS := (tSeq (tWhile (tAnd (tTest (tOp rLt (tVar 1) (tCB rLenS (tCons (tVar 0) tNil)))) (tTest (tChain rLeS rLeS (tVar 2) (tOp rIxS (tVar 0) (tVar 1)) (tVar 3)))) (tAsg (tOp (rAddX K) (tVar 1) (tC (.int 1))) (gName 1)))
    (tRet (tVar 1)))
theorem d_run_end {E : XK} {f : Addr} {A : Around} {outer : List Env} {s : Shared} {H : Hp} {cdv : Value} (hr : Room 0 (A.deeper (PyProof.Rows.envOfC "run_end" (defScope s_run_end) s.heap.objs.size f cdv))) (T : Txt K mg w D_READERS D_WORDS V_read_box V_read_condition V_read_conditional V_read_drop V_read_during V_read_first V_read_list V_read_nearest V_read_nothing V_read_number V_read_pair V_read_put V_read_skyline V_read_turn C_Reader tk_ALL tk_MOST_DIGITS)  :
    PSs (cxOf CX0 P w K mg base N_run_end "run_end" (defScope s_run_end) f cdv A outer s H E).nox (defBody s_run_end) (t_run_end K) :=
  (pss_cons (ps_while PassesOwn.never (PW.pt (pw_and (pt_cmpR o_lt (pv 1) (pe_callB c_lenS (by rfl) T.b_len (by decide +kernel) (pa_cons (pv 0) pa_nil)) (nomark _)) (pw_and1 (pt_chain op_leS op_leS (pv 2) (pe_ix ix_str (pv 0) (pv 1) (fun _ _ => rfl)) (pv 3))))) (pss_one (ps_set (i := 1) sc_run_end.nd rfl (Or.inl rfl) (pe_op op_addX (pv 1) pe_int))))
    (pss_one (ps_ret (pv 1))))

def t_token_end (K : PySem.W.Frag) (sp_run_end_ : Sp) : TS := (tSeq (tIfS (tTest (tChain rLeS rLeS (tC (.str "a")) (tOp rIxS (tVar 0) (tVar 1)) (tC (.str "z")))) (tRet (tCallO sp_run_end_ (tCons (tVar 0) (tCons (tVar 1) (tCons (tC (.str "a")) (tCons (tC (.str "z")) tNil)))))) tNext)
    (tCut (tAsg (tIf (tTest (tOp (rEqX K) (tOp rIxS (tVar 0) (tVar 1)) (tC (.str "-")))) (tOp (rAddX K) (tVar 1) (tC (.int 1))) (tVar 1)) (gName 2))
    (tSeq (tAsg (tCallO sp_run_end_ (tCons (tVar 0) (tCons (tVar 2) (tCons (tC (.str "0")) (tCons (tC (.str "9")) tNil))))) (gName 3))
    (tSeq (tIfS (tTest (tOp rGt (tVar 3) (tVar 2))) (tRet (tVar 3)) tNext)
    (tRet (tIf (tTest (tOp (rEqX K) (tSl rSlS (tVar 0) (tPart (tVar 1)) (tPart (tOp (rAddX K) (tVar 1) (tC (.int 2))))) (tC (.str "..")))) (tOp (rAddX K) (tVar 1) (tC (.int 2))) (tOp (rAddX K) (tVar 1) (tC (.int 1)))))))))
theorem d_token_end {sp_run_end_ : Sp} {E : XK} {f : Addr} {A : Around} {outer : List Env} {s : Shared} {H : Hp} {cdv : Value} (hr : Room 1 (A.deeper (PyProof.Rows.envOfC "token_end" (defScope s_token_end) s.heap.objs.size f cdv))) (T : Txt K mg w D_READERS D_WORDS V_read_box V_read_condition V_read_conditional V_read_drop V_read_during V_read_first V_read_list V_read_nearest V_read_nothing V_read_number V_read_pair V_read_put V_read_skyline V_read_turn C_Reader tk_ALL tk_MOST_DIGITS) (O_run_end : Ok P w K mg base 1 "run_end" ["text", "at", "first", "last"] (sp_run_end_)) :
    PSs (cxOf CX0 P w K mg base N_token_end "token_end" (defScope s_token_end) f cdv A outer s H E).nox (defBody s_token_end) (t_token_end K sp_run_end_) :=
  (pss_cons (ps_if (pt_chain op_leS op_leS pe_str (pe_ix ix_str (pv 0) (pv 1) (fun _ _ => rfl)) pe_str) (pss_one (ps_ret (pe_cO O_run_end (hr.mono (by decide)) rfl (pa_cons (pv 0) (pa_cons (pv 1) (pa_cons pe_str (pa_cons pe_str pa_nil))))))) pss_nil)
    (pss_cut (ps_set (i := 2) sc_token_end.nd rfl (Or.inl rfl) (pe_ifExp (pt_cmpR (op_eqX hr.units) (pe_ix ix_str (pv 0) (pv 1) (fun _ _ => rfl)) pe_str (nomark _)) (pe_op op_addX (pv 1) pe_int) (pv 1)))
    (pss_cons (ps_set (i := 3) sc_token_end.nd rfl (Or.inl rfl) (pe_cO O_run_end (hr.mono (by decide)) rfl (pa_cons (pv 0) (pa_cons (pv 2) (pa_cons pe_str (pa_cons pe_str pa_nil))))))
    (pss_cons (ps_if (pt_cmpR o_gt (pv 3) (pv 2) (nomark _)) (pss_one (ps_ret (pv 3))) pss_nil)
    (pss_one (ps_ret (pe_ifExp (pt_cmpR (op_eqX hr.units) (pe_slice sl_str (pv 0) (po_some (pv 1)) (po_some (pe_op op_addX (pv 1) pe_int))) pe_str (nomark _)) (pe_op op_addX (pv 1) pe_int) (pe_op op_addX (pv 1) pe_int))))))))

def t_is_number (K : PySem.W.Frag) : TS := (tSeq (tAsg (tBM K "str" rRemp (tVar 0) (tCons (tC (.str "-")) tNil)) (gName 1))
    (tSeq (tIfS (tOr (tNot (tB (tBM0 K "str" rAscii (tVar 1)))) (tOr (tNot (tB (tBM0 K "str" rDigit (tVar 1)))) (tTest (tOp rGt (tCB rLenS (tCons (tVar 1) tNil)) (tC (.int 12)))))) (tRet (tC (.bl false))) tNext)
    (tRet (tOrV (tOp (rEqX K) (tVar 0) (tC (.str "0"))) (tOp (rNeX K) (tOp rIxS (tVar 1) (tC (.int 0))) (tC (.str "0")))))))
theorem d_is_number {E : XK} {f : Addr} {A : Around} {outer : List Env} {s : Shared} {H : Hp} {cdv : Value} (hr : Room 0 (A.deeper (PyProof.Rows.envOfC "is_number" (defScope s_is_number) s.heap.objs.size f cdv))) (T : Txt K mg w D_READERS D_WORDS V_read_box V_read_condition V_read_conditional V_read_drop V_read_during V_read_first V_read_list V_read_nearest V_read_nothing V_read_number V_read_pair V_read_put V_read_skyline V_read_turn C_Reader tk_ALL tk_MOST_DIGITS)  :
    PSs (cxOf CX0 P w K mg base N_is_number "is_number" (defScope s_is_number) f cdv A outer s H E).nox (defBody s_is_number) (t_is_number K) :=
  (pss_cons (ps_set (i := 1) sc_is_number.nd rfl (Or.inl rfl) (pe_bm PySem.F.plainAttrs_str PySem.F.slot_str_removeprefix PySem.F.type_str_removeprefix mt_remp (pv 0) (pa_cons pe_str pa_nil)))
    (pss_cons (ps_if (PW.pt (pw_or (pt_not (pt_val (pe_bm0 PySem.F.plainAttrs_str PySem.F.slot_str_isascii PySem.F.type_str_isascii mt_ascii (pv 1)))) (pw_or (pt_not (pt_val (pe_bm0 PySem.F.plainAttrs_str PySem.F.slot_str_isdigit PySem.F.type_str_isdigit mt_digit (pv 1)))) (pw_or1 (pt_cmpR o_gt (pe_callB c_lenS (by rfl) T.b_len (by decide +kernel) (pa_cons (pv 1) pa_nil)) (pe_glob rfl T.c_MOST_DIGITS ⟨_, rfl⟩) (nomark _)))))) (pss_one (ps_ret pe_bl)) pss_nil)
    (pss_one (ps_ret (pe_or (pe_cmpR (op_eqX hr.units) (pv 0) pe_str (nomark _)) (pe_one (pe_cmpR (op_neX hr.units) (pe_ix ix_str (pv 1) pe_int (fun _ _ => rfl)) pe_str (nomark _))))))))

def t_Reader____init__ (K : PySem.W.Frag) (C_Reader : Addr) (sp_run_end_ : Sp) : TS := (tSeq (sFld K (tVar 0) (tVar 1) "_text")
    (sFld K (tVar 0) (tCallO sp_run_end_ (tCons (tVar 1) (tCons (tC (.int 0)) (tCons (tC (.str " ")) (tCons (tC (.str " ")) tNil))))) "_at"))
theorem d_Reader____init__ {sp_run_end_ : Sp} {E : XK} {f : Addr} {A : Around} {outer : List Env} {s : Shared} {H : Hp} {cdv : Value} (hr : Room 1 (A.deeper (PyProof.Rows.envOfC "Reader.__init__" (defScope s_Reader____init__) s.heap.objs.size f cdv))) (T : Txt K mg w D_READERS D_WORDS V_read_box V_read_condition V_read_conditional V_read_drop V_read_during V_read_first V_read_list V_read_nearest V_read_nothing V_read_number V_read_pair V_read_put V_read_skyline V_read_turn C_Reader tk_ALL tk_MOST_DIGITS) (O_run_end : Ok P w K mg base 1 "run_end" ["text", "at", "first", "last"] (sp_run_end_)) :
    PSs (cxOf CX0 P w K mg base N_Reader____init__ "Reader.__init__" (defScope s_Reader____init__) f cdv A outer s H E).nox (defBody s_Reader____init__) (t_Reader____init__ K C_Reader sp_run_end_) :=
  (pss_cons (ps_fld (pv 0) (pv 1) rfl)
    (pss_one (ps_fld (pv 0) (pe_cO O_run_end (hr.mono (by decide)) rfl (pa_cons (pv 1) (pa_cons pe_int (pa_cons pe_str (pa_cons pe_str pa_nil))))) rfl)))

def t_Reader__due (K : PySem.W.Frag) (C_Reader : Addr) (sp_token_end_ : Sp) : TS := (tSeq (tIfS (tTest (tOp (rEqX K) (tFld K (tVar 0) "_at") (tCB rLenS (tCons (tFld K (tVar 0) "_text") tNil)))) (tRet (tC (.str ""))) tNext)
    (tRet (tSl rSlS (tFld K (tVar 0) "_text") (tPart (tFld K (tVar 0) "_at")) (tPart (tCallO sp_token_end_ (tCons (tFld K (tVar 0) "_text") (tCons (tFld K (tVar 0) "_at") tNil)))))))
theorem d_Reader__due {sp_token_end_ : Sp} {E : XK} {f : Addr} {A : Around} {outer : List Env} {s : Shared} {H : Hp} {cdv : Value} (hr : Room 2 (A.deeper (PyProof.Rows.envOfC "Reader.due" (defScope s_Reader__due) s.heap.objs.size f cdv))) (T : Txt K mg w D_READERS D_WORDS V_read_box V_read_condition V_read_conditional V_read_drop V_read_during V_read_first V_read_list V_read_nearest V_read_nothing V_read_number V_read_pair V_read_put V_read_skyline V_read_turn C_Reader tk_ALL tk_MOST_DIGITS) (O_token_end : Ok P w K mg base 2 "token_end" ["text", "at"] (sp_token_end_)) :
    PSs (cxOf CX0 P w K mg base N_Reader__due "Reader.due" (defScope s_Reader__due) f cdv A outer s H E).nox (defBody s_Reader__due) (t_Reader__due K C_Reader sp_token_end_) :=
  (pss_cons (ps_if (pt_cmpR (op_eqX hr.units) (pe_fld (pv 0) rfl) (pe_callB c_lenS (by rfl) T.b_len (by decide +kernel) (pa_cons (pe_fld (pv 0) rfl) pa_nil)) (nomark _)) (pss_one (ps_ret pe_str)) pss_nil)
    (pss_one (ps_ret (pe_slice sl_str (pe_fld (pv 0) rfl) (po_some (pe_fld (pv 0) rfl)) (po_some (pe_cO O_token_end (hr.mono (by decide)) rfl (pa_cons (pe_fld (pv 0) rfl) (pa_cons (pe_fld (pv 0) rfl) pa_nil))))))))

def t_Reader___pass (K : PySem.W.Frag) (C_Reader : Addr) (sp_run_end_ : Sp) : TS := (sFld K (tVar 0) (tCallO sp_run_end_ (tCons (tFld K (tVar 0) "_text") (tCons (tOp (rAddX K) (tFld K (tVar 0) "_at") (tCB rLenS (tCons (tVar 1) tNil))) (tCons (tC (.str " ")) (tCons (tC (.str " ")) tNil))))) "_at")
theorem d_Reader___pass {sp_run_end_ : Sp} {E : XK} {f : Addr} {A : Around} {outer : List Env} {s : Shared} {H : Hp} {cdv : Value} (hr : Room 1 (A.deeper (PyProof.Rows.envOfC "Reader._pass" (defScope s_Reader___pass) s.heap.objs.size f cdv))) (T : Txt K mg w D_READERS D_WORDS V_read_box V_read_condition V_read_conditional V_read_drop V_read_during V_read_first V_read_list V_read_nearest V_read_nothing V_read_number V_read_pair V_read_put V_read_skyline V_read_turn C_Reader tk_ALL tk_MOST_DIGITS) (O_run_end : Ok P w K mg base 1 "run_end" ["text", "at", "first", "last"] (sp_run_end_)) :
    PSs (cxOf CX0 P w K mg base N_Reader___pass "Reader._pass" (defScope s_Reader___pass) f cdv A outer s H E).nox (defBody s_Reader___pass) (t_Reader___pass K C_Reader sp_run_end_) :=
  (pss_one (ps_fld (pv 0) (pe_cO O_run_end (hr.mono (by decide)) rfl (pa_cons (pe_fld (pv 0) rfl) (pa_cons (pe_op op_addX (pe_fld (pv 0) rfl) (pe_callB c_lenS (by rfl) T.b_len (by decide +kernel) (pa_cons (pv 1) pa_nil))) (pa_cons pe_str (pa_cons pe_str pa_nil))))) rfl))

def t_Reader__take (K : PySem.W.Frag) (C_Reader : Addr) (sp_Reader___pass_ : Sp) (sp_Reader__due_ : Sp) : TS := (tSeq (tAsg (tM C_Reader "due" sp_Reader__due_ (fun _ => E0) (tVar 0) tNil) (gName 2))
    (tSeq (tIfS (tTest (tOp (rIn K true) (tVar 2) (tVar 1))) tDead tNext)
    (tSeq (tDrop (tM C_Reader "_pass" sp_Reader___pass_ (fun _ => E0) (tVar 0) (tCons (tVar 2) tNil)))
    (tRet (tVar 2)))))
theorem d_Reader__take {sp_Reader___pass_ : Sp} {sp_Reader__due_ : Sp} {E : XK} {f : Addr} {A : Around} {outer : List Env} {s : Shared} {H : Hp} {cdv : Value} (hr : Room 3 (A.deeper (PyProof.Rows.envOfC "Reader.take" (defScope s_Reader__take) s.heap.objs.size f cdv))) (T : Txt K mg w D_READERS D_WORDS V_read_box V_read_condition V_read_conditional V_read_drop V_read_during V_read_first V_read_list V_read_nearest V_read_nothing V_read_number V_read_pair V_read_put V_read_skyline V_read_turn C_Reader tk_ALL tk_MOST_DIGITS) (O_Reader___pass : OkM CX0 P w K mg base 2 C_Reader "_pass" ["self", "token"] (sp_Reader___pass_)) (O_Reader__due : OkM CX0 P w K mg base 3 C_Reader "due" ["self"] (sp_Reader__due_)) :
    PSs (cxOf CX0 P w K mg base N_Reader__take "Reader.take" (defScope s_Reader__take) f cdv A outer s H E).nox (defBody s_Reader__take) (t_Reader__take K C_Reader sp_Reader___pass_ sp_Reader__due_) :=
  (pss_cons (ps_set (i := 2) sc_Reader__take.nd rfl (Or.inl rfl) (pe_m0 T.o_Reader O_Reader__due (hr.mono (by decide)) no0 (pv 0)))
    (pss_cons (ps_if (pt_cmpR op_notIn_seq (pv 2) (pv 1) (by rfl)) (pss_one ps_dead) pss_nil)
    (pss_cons (ps_expr (pe_m T.o_Reader O_Reader___pass (hr.mono (by decide)) no0 (pv 0) (pa_cons (pv 2) pa_nil)))
    (pss_one (ps_ret (pv 2))))))

def t_Reader__take_number (K : PySem.W.Frag) (C_Reader : Addr) (sp_Reader___pass_ : Sp) (sp_Reader__due_ : Sp) (sp_is_number_ : Sp) : TS := (tSeq (tAsg (tM C_Reader "due" sp_Reader__due_ (fun _ => E0) (tVar 0) tNil) (gName 1))
    (tSeq (tIfS (tNot (tB (tCallO sp_is_number_ (tCons (tVar 1) tNil)))) tDead tNext)
    (tSeq (tDrop (tM C_Reader "_pass" sp_Reader___pass_ (fun _ => E0) (tVar 0) (tCons (tVar 1) tNil)))
    (tRet (tCB rIntS (tCons (tVar 1) tNil))))))
theorem d_Reader__take_number {sp_Reader___pass_ : Sp} {sp_Reader__due_ : Sp} {sp_is_number_ : Sp} {E : XK} {f : Addr} {A : Around} {outer : List Env} {s : Shared} {H : Hp} {cdv : Value} (hr : Room 3 (A.deeper (PyProof.Rows.envOfC "Reader.take_number" (defScope s_Reader__take_number) s.heap.objs.size f cdv))) (T : Txt K mg w D_READERS D_WORDS V_read_box V_read_condition V_read_conditional V_read_drop V_read_during V_read_first V_read_list V_read_nearest V_read_nothing V_read_number V_read_pair V_read_put V_read_skyline V_read_turn C_Reader tk_ALL tk_MOST_DIGITS) (O_Reader___pass : OkM CX0 P w K mg base 2 C_Reader "_pass" ["self", "token"] (sp_Reader___pass_)) (O_Reader__due : OkM CX0 P w K mg base 3 C_Reader "due" ["self"] (sp_Reader__due_)) (O_is_number : Ok P w K mg base 1 "is_number" ["token"] (sp_is_number_)) :
    PSs (cxOf CX0 P w K mg base N_Reader__take_number "Reader.take_number" (defScope s_Reader__take_number) f cdv A outer s H E).nox (defBody s_Reader__take_number) (t_Reader__take_number K C_Reader sp_Reader___pass_ sp_Reader__due_ sp_is_number_) :=
  (pss_cons (ps_set (i := 1) sc_Reader__take_number.nd rfl (Or.inl rfl) (pe_m0 T.o_Reader O_Reader__due (hr.mono (by decide)) no0 (pv 0)))
    (pss_cons (ps_if (pt_not (pt_val (pe_cO O_is_number (hr.mono (by decide)) rfl (pa_cons (pv 1) pa_nil)))) (pss_one ps_dead) pss_nil)
    (pss_cons (ps_expr (pe_m T.o_Reader O_Reader___pass (hr.mono (by decide)) no0 (pv 0) (pa_cons (pv 1) pa_nil)))
    (pss_one (ps_ret (pe_callTy c_intS (by rfl) T.b_int (by decide +kernel) (pa_cons (pv 1) pa_nil)))))))

def t_Reader__finish (K : PySem.W.Frag) (C_Reader : Addr) : TS := (tIfS (tTest (tOp rLt (tFld K (tVar 0) "_at") (tCB rLenS (tCons (tFld K (tVar 0) "_text") tNil)))) tDead tNext)
theorem d_Reader__finish {E : XK} {f : Addr} {A : Around} {outer : List Env} {s : Shared} {H : Hp} {cdv : Value} (hr : Room 2 (A.deeper (PyProof.Rows.envOfC "Reader.finish" (defScope s_Reader__finish) s.heap.objs.size f cdv))) (T : Txt K mg w D_READERS D_WORDS V_read_box V_read_condition V_read_conditional V_read_drop V_read_during V_read_first V_read_list V_read_nearest V_read_nothing V_read_number V_read_pair V_read_put V_read_skyline V_read_turn C_Reader tk_ALL tk_MOST_DIGITS)  :
    PSs (cxOf CX0 P w K mg base N_Reader__finish "Reader.finish" (defScope s_Reader__finish) f cdv A outer s H E).nox (defBody s_Reader__finish) (t_Reader__finish K C_Reader) :=
  (pss_one (ps_if (pt_cmpR o_lt (pe_fld (pv 0) rfl) (pe_callB c_lenS (by rfl) T.b_len (by decide +kernel) (pa_cons (pe_fld (pv 0) rfl) pa_nil)) (nomark _)) (pss_one ps_dead) pss_nil))

def t_read_number (K : PySem.W.Frag) (C_Reader : Addr) (sp_Reader__take_number_ : Sp) : TS := (tRet (tM C_Reader "take_number" sp_Reader__take_number_ (fun _ => E0) (tVar 0) tNil))
theorem d_read_number {sp_Reader__take_number_ : Sp} {E : XK} {f : Addr} {A : Around} {outer : List Env} {s : Shared} {H : Hp} {cdv : Value} (hr : Room 4 (A.deeper (PyProof.Rows.envOfC "read_number" (defScope s_read_number) s.heap.objs.size f cdv))) (T : Txt K mg w D_READERS D_WORDS V_read_box V_read_condition V_read_conditional V_read_drop V_read_during V_read_first V_read_list V_read_nearest V_read_nothing V_read_number V_read_pair V_read_put V_read_skyline V_read_turn C_Reader tk_ALL tk_MOST_DIGITS) (O_Reader__take_number : OkM CX0 P w K mg base 4 C_Reader "take_number" ["self"] (sp_Reader__take_number_)) :
    PSs (cxOf CX0 P w K mg base N_read_number "read_number" (defScope s_read_number) f cdv A outer s H E).nox (defBody s_read_number) (t_read_number K C_Reader sp_Reader__take_number_) :=
  (pss_one (ps_ret (pe_m0 T.o_Reader O_Reader__take_number (hr.mono (by decide)) no0 (pv 0))))

def t_read_pair (K : PySem.W.Frag) (C_Reader : Addr) (sp_Reader__due_ : Sp) (sp_Reader__take_ : Sp) (sp_Reader__take_number_ : Sp) : TS := (tSeq (tAsg (tM C_Reader "take_number" sp_Reader__take_number_ (fun _ => E0) (tVar 0) tNil) (gName 1))
    (tSeq (tIfS (tTest (tOp (rNeX K) (tM C_Reader "due" sp_Reader__due_ (fun _ => E0) (tVar 0) tNil) (tC (.str "..")))) (tRet (tTup (tCons (tVar 1) (tCons (tVar 1) tNil)))) tNext)
    (tSeq (tDrop (tM C_Reader "take" sp_Reader__take_ (fun _ => E0) (tVar 0) (tCons (tTup (tCons (tC (.str "..")) tNil)) tNil)))
    (tRet (tTup (tCons (tVar 1) (tCons (tM C_Reader "take_number" sp_Reader__take_number_ (fun _ => E0) (tVar 0) tNil) tNil)))))))
theorem d_read_pair {sp_Reader__due_ : Sp} {sp_Reader__take_ : Sp} {sp_Reader__take_number_ : Sp} {E : XK} {f : Addr} {A : Around} {outer : List Env} {s : Shared} {H : Hp} {cdv : Value} (hr : Room 4 (A.deeper (PyProof.Rows.envOfC "read_pair" (defScope s_read_pair) s.heap.objs.size f cdv))) (T : Txt K mg w D_READERS D_WORDS V_read_box V_read_condition V_read_conditional V_read_drop V_read_during V_read_first V_read_list V_read_nearest V_read_nothing V_read_number V_read_pair V_read_put V_read_skyline V_read_turn C_Reader tk_ALL tk_MOST_DIGITS) (O_Reader__due : OkM CX0 P w K mg base 3 C_Reader "due" ["self"] (sp_Reader__due_)) (O_Reader__take : OkM CX0 P w K mg base 4 C_Reader "take" ["self", "tokens"] (sp_Reader__take_)) (O_Reader__take_number : OkM CX0 P w K mg base 4 C_Reader "take_number" ["self"] (sp_Reader__take_number_)) :
    PSs (cxOf CX0 P w K mg base N_read_pair "read_pair" (defScope s_read_pair) f cdv A outer s H E).nox (defBody s_read_pair) (t_read_pair K C_Reader sp_Reader__due_ sp_Reader__take_ sp_Reader__take_number_) :=
  (pss_cons (ps_set (i := 1) sc_read_pair.nd rfl (Or.inl rfl) (pe_m0 T.o_Reader O_Reader__take_number (hr.mono (by decide)) no0 (pv 0)))
    (pss_cons (ps_if (pt_cmpR (op_neX hr.units) (pe_m0 T.o_Reader O_Reader__due (hr.mono (by decide)) no0 (pv 0)) pe_str (nomark _)) (pss_one (ps_ret (pe_tup (pa_cons (pv 1) (pa_cons (pv 1) pa_nil))))) pss_nil)
    (pss_cons (ps_expr (pe_m T.o_Reader O_Reader__take (hr.mono (by decide)) no0 (pv 0) (pa_cons (pe_tup (pa_cons pe_str pa_nil)) pa_nil)))
    (pss_one (ps_ret (pe_tup (pa_cons (pv 1) (pa_cons (pe_m0 T.o_Reader O_Reader__take_number (hr.mono (by decide)) no0 (pv 0)) pa_nil))))))))

def t_read_series (K : PySem.W.Frag) (C_Reader : Addr) (V_read_pair : Addr) (V_read_number : Addr) (sp_Reader__take_ : Sp) (sp_read_number_ : Sp) (sp_read_pair_ : Sp) : TS := (tSeq (tDrop (tM C_Reader "take" sp_Reader__take_ (fun _ => E0) (tVar 0) (tCons (tTup (tCons (tC (.str "[")) tNil)) tNil)))
    (tSeq (tAsg (tLst (tCons (tEi (tCallL 1 V_read_number sp_read_number_ [] E0 (tCons (tVar 0) tNil)) (tCallL 1 V_read_pair sp_read_pair_ [] E0 (tCons (tVar 0) tNil))) tNil)) (gName 2))
    (tSeq (tWhile (tTest (tOp (rEqX K) (tM C_Reader "take" sp_Reader__take_ (fun _ => E0) (tVar 0) (tCons (tTup (tCons (tC (.str ",")) (tCons (tC (.str "]")) tNil))) tNil)) (tC (.str ",")))) (tDrop (tBM K "list" rAppend (tVar 2) (tCons (tEi (tCallL 1 V_read_number sp_read_number_ [] E0 (tCons (tVar 0) tNil)) (tCallL 1 V_read_pair sp_read_pair_ [] E0 (tCons (tVar 0) tNil))) tNil))))
    (tRet (tCB (rTupOf K) (tCons (tVar 2) tNil))))))
theorem d_read_series {sp_Reader__take_ : Sp} {sp_read_number_ : Sp} {sp_read_pair_ : Sp} {E : XK} {f : Addr} {A : Around} {outer : List Env} {s : Shared} {H : Hp} {cdv : Value} (hr : Room 5 (A.deeper (PyProof.Rows.envOfC "read_series" (defScope s_read_series) s.heap.objs.size f cdv))) (T : Txt K mg w D_READERS D_WORDS V_read_box V_read_condition V_read_conditional V_read_drop V_read_during V_read_first V_read_list V_read_nearest V_read_nothing V_read_number V_read_pair V_read_put V_read_skyline V_read_turn C_Reader tk_ALL tk_MOST_DIGITS) (O_Reader__take : OkM CX0 P w K mg base 4 C_Reader "take" ["self", "tokens"] (sp_Reader__take_)) (O_read_number : Ok P w K mg base 5 "read_number" ["reader"] (sp_read_number_)) (O_read_pair : Ok P w K mg base 5 "read_pair" ["reader"] (sp_read_pair_)) :
    PSs (cxOf CX0 P w K mg base N_read_series "read_series" (defScope s_read_series) f cdv A outer s H E).nox (defBody s_read_series) (t_read_series K C_Reader V_read_pair V_read_number sp_Reader__take_ sp_read_number_ sp_read_pair_) :=
  (pss_cons (ps_expr (pe_m T.o_Reader O_Reader__take (hr.mono (by decide)) no0 (pv 0) (pa_cons (pe_tup (pa_cons pe_str pa_nil)) pa_nil)))
    (pss_cons (ps_set (i := 2) sc_read_series.nd rfl (Or.inl rfl) (pe_lst (pa_cons (pe_ei (pe_callV O_read_number T.kv_read_number (i := 1) (hr.mono (by decide)) rfl (Or.inl rfl) (pa_cons (pv 0) pa_nil)) (pe_callV O_read_pair T.kv_read_pair (i := 1) (hr.mono (by decide)) rfl (Or.inl rfl) (pa_cons (pv 0) pa_nil))) pa_nil)))
    (pss_cons (ps_while PassesOwn.never (pt_cmpR (op_eqX hr.units) (pe_m T.o_Reader O_Reader__take (hr.mono (by decide)) no0 (pv 0) (pa_cons (pe_tup (pa_cons pe_str (pa_cons pe_str pa_nil))) pa_nil)) pe_str (nomark _)) (pss_one (ps_expr (pe_bm PySem.F.plainAttrs_list PySem.F.slot_list_append PySem.F.type_list_append mt_append (pv 2) (pa_cons (pe_ei (pe_callV O_read_number T.kv_read_number (i := 1) (hr.mono (by decide)) rfl (Or.inl rfl) (pa_cons (pv 0) pa_nil)) (pe_callV O_read_pair T.kv_read_pair (i := 1) (hr.mono (by decide)) rfl (Or.inl rfl) (pa_cons (pv 0) pa_nil))) pa_nil)))))
    (pss_one (ps_ret (pe_callTy c_tuple (by rfl) T.b_tuple (by decide +kernel) (pa_cons (pv 2) pa_nil)))))))

def t_read_list (K : PySem.W.Frag) (V_read_number : Addr) (sp_read_series_ : Sp) : TS := (tRet (tCallO sp_read_series_ (tCons (tVar 0) (tCons (tC (.ref V_read_number)) tNil))))
theorem d_read_list {sp_read_series_ : Sp} {E : XK} {f : Addr} {A : Around} {outer : List Env} {s : Shared} {H : Hp} {cdv : Value} (hr : Room 6 (A.deeper (PyProof.Rows.envOfC "read_list" (defScope s_read_list) s.heap.objs.size f cdv))) (T : Txt K mg w D_READERS D_WORDS V_read_box V_read_condition V_read_conditional V_read_drop V_read_during V_read_first V_read_list V_read_nearest V_read_nothing V_read_number V_read_pair V_read_put V_read_skyline V_read_turn C_Reader tk_ALL tk_MOST_DIGITS) (O_read_series : Ok P w K mg base 6 "read_series" ["reader", "read_one"] (sp_read_series_)) :
    PSs (cxOf CX0 P w K mg base N_read_list "read_list" (defScope s_read_list) f cdv A outer s H E).nox (defBody s_read_list) (t_read_list K V_read_number sp_read_series_) :=
  (pss_one (ps_ret (pe_cO O_read_series (hr.mono (by decide)) rfl (pa_cons (pv 0) (pa_cons (pe_glob rfl T.kv_read_number rfl) pa_nil)))))

def t_read_box (K : PySem.W.Frag) (V_read_pair : Addr) (sp_read_series_ : Sp) : TS := (tRet (tCallO sp_read_series_ (tCons (tVar 0) (tCons (tC (.ref V_read_pair)) tNil))))
theorem d_read_box {sp_read_series_ : Sp} {E : XK} {f : Addr} {A : Around} {outer : List Env} {s : Shared} {H : Hp} {cdv : Value} (hr : Room 6 (A.deeper (PyProof.Rows.envOfC "read_box" (defScope s_read_box) s.heap.objs.size f cdv))) (T : Txt K mg w D_READERS D_WORDS V_read_box V_read_condition V_read_conditional V_read_drop V_read_during V_read_first V_read_list V_read_nearest V_read_nothing V_read_number V_read_pair V_read_put V_read_skyline V_read_turn C_Reader tk_ALL tk_MOST_DIGITS) (O_read_series : Ok P w K mg base 6 "read_series" ["reader", "read_one"] (sp_read_series_)) :
    PSs (cxOf CX0 P w K mg base N_read_box "read_box" (defScope s_read_box) f cdv A outer s H E).nox (defBody s_read_box) (t_read_box K V_read_pair sp_read_series_) :=
  (pss_one (ps_ret (pe_cO O_read_series (hr.mono (by decide)) rfl (pa_cons (pv 0) (pa_cons (pe_glob rfl T.kv_read_pair rfl) pa_nil)))))

def t_read_condition (K : PySem.W.Frag) (C_Reader : Addr) (D_WORDS : Addr) (sp_Reader__take_ : Sp) (sp_read_box_ : Sp) : TS := (tSeq (tAsg (tM C_Reader "take" sp_Reader__take_ (fun _ => E0) (tVar 0) (tCons (tC (.ref D_WORDS)) tNil)) (gName 1))
    (tRet (tTup (tCons (tVar 1) (tCons (tCallO sp_read_box_ (tCons (tVar 0) tNil)) tNil)))))
theorem d_read_condition {sp_Reader__take_ : Sp} {sp_read_box_ : Sp} {E : XK} {f : Addr} {A : Around} {outer : List Env} {s : Shared} {H : Hp} {cdv : Value} (hr : Room 7 (A.deeper (PyProof.Rows.envOfC "read_condition" (defScope s_read_condition) s.heap.objs.size f cdv))) (T : Txt K mg w D_READERS D_WORDS V_read_box V_read_condition V_read_conditional V_read_drop V_read_during V_read_first V_read_list V_read_nearest V_read_nothing V_read_number V_read_pair V_read_put V_read_skyline V_read_turn C_Reader tk_ALL tk_MOST_DIGITS) (O_Reader__take : OkM CX0 P w K mg base 4 C_Reader "take" ["self", "tokens"] (sp_Reader__take_)) (O_read_box : Ok P w K mg base 7 "read_box" ["reader"] (sp_read_box_)) :
    PSs (cxOf CX0 P w K mg base N_read_condition "read_condition" (defScope s_read_condition) f cdv A outer s H E).nox (defBody s_read_condition) (t_read_condition K C_Reader D_WORDS sp_Reader__take_ sp_read_box_) :=
  (pss_cons (ps_set (i := 1) sc_read_condition.nd rfl (Or.inl rfl) (pe_m T.o_Reader O_Reader__take (hr.mono (by decide)) no0 (pv 0) (pa_cons (pe_glob rfl T.km_WORDS rfl) pa_nil)))
    (pss_one (ps_ret (pe_tup (pa_cons (pv 1) (pa_cons (pe_cO O_read_box (hr.mono (by decide)) rfl (pa_cons (pv 0) pa_nil)) pa_nil))))))

def t_read_after (K : PySem.W.Frag) (V_read_box : Addr) (V_read_condition : Addr) (V_read_list : Addr) (V_read_number : Addr) (C_Reader : Addr) (sp_Reader__take_ : Sp) (sp_read_box_ : Sp) (sp_read_condition_ : Sp) (sp_read_list_ : Sp) (sp_read_number_ : Sp) : TS := (tSeq (tDrop (tM C_Reader "take" sp_Reader__take_ (fun _ => E0) (tVar 0) (tCons (tTup (tCons (tVar 1) tNil)) tNil)))
    (tRet (tEi (tCallL 2 V_read_number sp_read_number_ [] E0 (tCons (tVar 0) tNil)) (tEi (tCallL 2 V_read_list sp_read_list_ [] E0 (tCons (tVar 0) tNil)) (tEi (tCallL 2 V_read_condition sp_read_condition_ [] E0 (tCons (tVar 0) tNil)) (tCallL 2 V_read_box sp_read_box_ [] E0 (tCons (tVar 0) tNil)))))))
theorem d_read_after {sp_Reader__take_ : Sp} {sp_read_box_ : Sp} {sp_read_condition_ : Sp} {sp_read_list_ : Sp} {sp_read_number_ : Sp} {E : XK} {f : Addr} {A : Around} {outer : List Env} {s : Shared} {H : Hp} {cdv : Value} (hr : Room 8 (A.deeper (PyProof.Rows.envOfC "read_after" (defScope s_read_after) s.heap.objs.size f cdv))) (T : Txt K mg w D_READERS D_WORDS V_read_box V_read_condition V_read_conditional V_read_drop V_read_during V_read_first V_read_list V_read_nearest V_read_nothing V_read_number V_read_pair V_read_put V_read_skyline V_read_turn C_Reader tk_ALL tk_MOST_DIGITS) (O_Reader__take : OkM CX0 P w K mg base 4 C_Reader "take" ["self", "tokens"] (sp_Reader__take_)) (O_read_box : Ok P w K mg base 7 "read_box" ["reader"] (sp_read_box_)) (O_read_condition : Ok P w K mg base 8 "read_condition" ["reader"] (sp_read_condition_)) (O_read_list : Ok P w K mg base 7 "read_list" ["reader"] (sp_read_list_)) (O_read_number : Ok P w K mg base 5 "read_number" ["reader"] (sp_read_number_)) :
    PSs (cxOf CX0 P w K mg base N_read_after "read_after" (defScope s_read_after) f cdv A outer s H E).nox (defBody s_read_after) (t_read_after K V_read_box V_read_condition V_read_list V_read_number C_Reader sp_Reader__take_ sp_read_box_ sp_read_condition_ sp_read_list_ sp_read_number_) :=
  (pss_cons (ps_expr (pe_m T.o_Reader O_Reader__take (hr.mono (by decide)) no0 (pv 0) (pa_cons (pe_tup (pa_cons (pv 1) pa_nil)) pa_nil)))
    (pss_one (ps_ret (pe_ei (pe_callV O_read_number T.kv_read_number (i := 2) (hr.mono (by decide)) rfl (Or.inl rfl) (pa_cons (pv 0) pa_nil)) (pe_ei (pe_callV O_read_list T.kv_read_list (i := 2) (hr.mono (by decide)) rfl (Or.inl rfl) (pa_cons (pv 0) pa_nil)) (pe_ei (pe_callV O_read_condition T.kv_read_condition (i := 2) (hr.mono (by decide)) rfl (Or.inl rfl) (pa_cons (pv 0) pa_nil)) (pe_callV O_read_box T.kv_read_box (i := 2) (hr.mono (by decide)) rfl (Or.inl rfl) (pa_cons (pv 0) pa_nil))))))))

def t_read_put (K : PySem.W.Frag) (C_Reader : Addr) (V_read_list : Addr) (sp_Reader__due_ : Sp) (sp_read_after_ : Sp) (sp_read_box_ : Sp) (sp_read_number_ : Sp) : TS := (tSeq (tAsg (tCallO sp_read_number_ (tCons (tVar 0) tNil)) (gName 1))
    (tSeq (tAsg (tCallO sp_read_box_ (tCons (tVar 0) tNil)) (gName 2))
    (tCut (tAsg (tIf (tTest (tOp (rEqX K) (tM C_Reader "due" sp_Reader__due_ (fun _ => E0) (tVar 0) tNil) (tC (.str "speed")))) (tCallO sp_read_after_ (tCons (tVar 0) (tCons (tC (.str "speed")) (tCons (tC (.ref V_read_list)) tNil)))) (tC .non)) (gName 3))
    (tRet (tTup (tCons (tVar 1) (tCons (tVar 2) (tCons (tVar 3) tNil))))))))
theorem d_read_put {sp_Reader__due_ : Sp} {sp_read_after_ : Sp} {sp_read_box_ : Sp} {sp_read_number_ : Sp} {E : XK} {f : Addr} {A : Around} {outer : List Env} {s : Shared} {H : Hp} {cdv : Value} (hr : Room 9 (A.deeper (PyProof.Rows.envOfC "read_put" (defScope s_read_put) s.heap.objs.size f cdv))) (T : Txt K mg w D_READERS D_WORDS V_read_box V_read_condition V_read_conditional V_read_drop V_read_during V_read_first V_read_list V_read_nearest V_read_nothing V_read_number V_read_pair V_read_put V_read_skyline V_read_turn C_Reader tk_ALL tk_MOST_DIGITS) (O_Reader__due : OkM CX0 P w K mg base 3 C_Reader "due" ["self"] (sp_Reader__due_)) (O_read_after : Ok P w K mg base 9 "read_after" ["reader", "word", "read_one"] (sp_read_after_)) (O_read_box : Ok P w K mg base 7 "read_box" ["reader"] (sp_read_box_)) (O_read_number : Ok P w K mg base 5 "read_number" ["reader"] (sp_read_number_)) :
    PSs (cxOf CX0 P w K mg base N_read_put "read_put" (defScope s_read_put) f cdv A outer s H E).nox (defBody s_read_put) (t_read_put K C_Reader V_read_list sp_Reader__due_ sp_read_after_ sp_read_box_ sp_read_number_) :=
  (pss_cons (ps_set (i := 1) sc_read_put.nd rfl (Or.inl rfl) (pe_cO O_read_number (hr.mono (by decide)) rfl (pa_cons (pv 0) pa_nil)))
    (pss_cons (ps_set (i := 2) sc_read_put.nd rfl (Or.inl rfl) (pe_cO O_read_box (hr.mono (by decide)) rfl (pa_cons (pv 0) pa_nil)))
    (pss_cut (ps_set (i := 3) sc_read_put.nd rfl (Or.inl rfl) (pe_ifExp (pt_cmpR (op_eqX hr.units) (pe_m0 T.o_Reader O_Reader__due (hr.mono (by decide)) no0 (pv 0)) pe_str (nomark _)) (pe_cO O_read_after (hr.mono (by decide)) rfl (pa_cons (pv 0) (pa_cons pe_str (pa_cons (pe_glob rfl T.kv_read_list rfl) pa_nil)))) pe_non))
    (pss_one (ps_ret (pe_tup (pa_cons (pv 1) (pa_cons (pv 2) (pa_cons (pv 3) pa_nil)))))))))

def t_read_drop (K : PySem.W.Frag) (sp_read_number_ : Sp) : TS := (tRet (tTup (tCons (tCallO sp_read_number_ (tCons (tVar 0) tNil)) tNil)))
theorem d_read_drop {sp_read_number_ : Sp} {E : XK} {f : Addr} {A : Around} {outer : List Env} {s : Shared} {H : Hp} {cdv : Value} (hr : Room 5 (A.deeper (PyProof.Rows.envOfC "read_drop" (defScope s_read_drop) s.heap.objs.size f cdv))) (T : Txt K mg w D_READERS D_WORDS V_read_box V_read_condition V_read_conditional V_read_drop V_read_during V_read_first V_read_list V_read_nearest V_read_nothing V_read_number V_read_pair V_read_put V_read_skyline V_read_turn C_Reader tk_ALL tk_MOST_DIGITS) (O_read_number : Ok P w K mg base 5 "read_number" ["reader"] (sp_read_number_)) :
    PSs (cxOf CX0 P w K mg base N_read_drop "read_drop" (defScope s_read_drop) f cdv A outer s H E).nox (defBody s_read_drop) (t_read_drop K sp_read_number_) :=
  (pss_one (ps_ret (pe_tup (pa_cons (pe_cO O_read_number (hr.mono (by decide)) rfl (pa_cons (pv 0) pa_nil)) pa_nil))))

def t_read_turn (K : PySem.W.Frag) (V_read_list : Addr) (V_read_number : Addr) (sp_read_after_ : Sp) (sp_read_number_ : Sp) : TS := (tSeq (tAsg (tCallO sp_read_number_ (tCons (tVar 0) tNil)) (gName 1))
    (tSeq (tAsg (tCallO sp_read_after_ (tCons (tVar 0) (tCons (tC (.str "at")) (tCons (tC (.ref V_read_number)) tNil)))) (gName 2))
    (tRet (tTup (tCons (tVar 1) (tCons (tVar 2) (tCons (tCallO sp_read_after_ (tCons (tVar 0) (tCons (tC (.str "speed")) (tCons (tC (.ref V_read_list)) tNil)))) tNil)))))))
theorem d_read_turn {sp_read_after_ : Sp} {sp_read_number_ : Sp} {E : XK} {f : Addr} {A : Around} {outer : List Env} {s : Shared} {H : Hp} {cdv : Value} (hr : Room 9 (A.deeper (PyProof.Rows.envOfC "read_turn" (defScope s_read_turn) s.heap.objs.size f cdv))) (T : Txt K mg w D_READERS D_WORDS V_read_box V_read_condition V_read_conditional V_read_drop V_read_during V_read_first V_read_list V_read_nearest V_read_nothing V_read_number V_read_pair V_read_put V_read_skyline V_read_turn C_Reader tk_ALL tk_MOST_DIGITS) (O_read_after : Ok P w K mg base 9 "read_after" ["reader", "word", "read_one"] (sp_read_after_)) (O_read_number : Ok P w K mg base 5 "read_number" ["reader"] (sp_read_number_)) :
    PSs (cxOf CX0 P w K mg base N_read_turn "read_turn" (defScope s_read_turn) f cdv A outer s H E).nox (defBody s_read_turn) (t_read_turn K V_read_list V_read_number sp_read_after_ sp_read_number_) :=
  (pss_cons (ps_set (i := 1) sc_read_turn.nd rfl (Or.inl rfl) (pe_cO O_read_number (hr.mono (by decide)) rfl (pa_cons (pv 0) pa_nil)))
    (pss_cons (ps_set (i := 2) sc_read_turn.nd rfl (Or.inl rfl) (pe_cO O_read_after (hr.mono (by decide)) rfl (pa_cons (pv 0) (pa_cons pe_str (pa_cons (pe_glob rfl T.kv_read_number rfl) pa_nil)))))
    (pss_one (ps_ret (pe_tup (pa_cons (pv 1) (pa_cons (pv 2) (pa_cons (pe_cO O_read_after (hr.mono (by decide)) rfl (pa_cons (pv 0) (pa_cons pe_str (pa_cons (pe_glob rfl T.kv_read_list rfl) pa_nil)))) pa_nil))))))))

def t_read_conditions (K : PySem.W.Frag) (C_Reader : Addr) (V_read_condition : Addr) (sp_Reader__due_ : Sp) (sp_Reader__take_ : Sp) (sp_read_after_ : Sp) (sp_read_condition_ : Sp) : TS := (tSeq (tIfS (tTest (tOp (rEqX K) (tM C_Reader "due" sp_Reader__due_ (fun _ => E0) (tVar 0) tNil) (tC (.str "all")))) (tSeq (tDrop (tM C_Reader "take" sp_Reader__take_ (fun _ => E0) (tVar 0) (tCons (tTup (tCons (tC (.str "all")) tNil)) tNil)))
    (tRet (tTup tNil))) tNext)
    (tSeq (tAsg (tLst (tCons (tCallO sp_read_condition_ (tCons (tVar 0) tNil)) tNil)) (gName 1))
    (tSeq (tWhile (tTest (tOp (rEqX K) (tM C_Reader "due" sp_Reader__due_ (fun _ => E0) (tVar 0) tNil) (tC (.str "and")))) (tDrop (tBM K "list" rAppend (tVar 1) (tCons (tCallO sp_read_after_ (tCons (tVar 0) (tCons (tC (.str "and")) (tCons (tC (.ref V_read_condition)) tNil)))) tNil))))
    (tRet (tCB (rTupOf K) (tCons (tVar 1) tNil))))))
theorem d_read_conditions {sp_Reader__due_ : Sp} {sp_Reader__take_ : Sp} {sp_read_after_ : Sp} {sp_read_condition_ : Sp} {E : XK} {f : Addr} {A : Around} {outer : List Env} {s : Shared} {H : Hp} {cdv : Value} (hr : Room 9 (A.deeper (PyProof.Rows.envOfC "read_conditions" (defScope s_read_conditions) s.heap.objs.size f cdv))) (T : Txt K mg w D_READERS D_WORDS V_read_box V_read_condition V_read_conditional V_read_drop V_read_during V_read_first V_read_list V_read_nearest V_read_nothing V_read_number V_read_pair V_read_put V_read_skyline V_read_turn C_Reader tk_ALL tk_MOST_DIGITS) (O_Reader__due : OkM CX0 P w K mg base 3 C_Reader "due" ["self"] (sp_Reader__due_)) (O_Reader__take : OkM CX0 P w K mg base 4 C_Reader "take" ["self", "tokens"] (sp_Reader__take_)) (O_read_after : Ok P w K mg base 9 "read_after" ["reader", "word", "read_one"] (sp_read_after_)) (O_read_condition : Ok P w K mg base 8 "read_condition" ["reader"] (sp_read_condition_)) :
    PSs (cxOf CX0 P w K mg base N_read_conditions "read_conditions" (defScope s_read_conditions) f cdv A outer s H E).nox (defBody s_read_conditions) (t_read_conditions K C_Reader V_read_condition sp_Reader__due_ sp_Reader__take_ sp_read_after_ sp_read_condition_) :=
  (pss_cons (ps_if (pt_cmpR (op_eqX hr.units) (pe_m0 T.o_Reader O_Reader__due (hr.mono (by decide)) no0 (pv 0)) (pe_glob rfl T.c_ALL ⟨_, rfl⟩) (nomark _)) (pss_cons (ps_expr (pe_m T.o_Reader O_Reader__take (hr.mono (by decide)) no0 (pv 0) (pa_cons (pe_tup (pa_cons (pe_glob rfl T.c_ALL ⟨_, rfl⟩) pa_nil)) pa_nil)))
    (pss_one (ps_ret (pe_tup pa_nil)))) pss_nil)
    (pss_cons (ps_set (i := 1) sc_read_conditions.nd rfl (Or.inl rfl) (pe_lst (pa_cons (pe_cO O_read_condition (hr.mono (by decide)) rfl (pa_cons (pv 0) pa_nil)) pa_nil)))
    (pss_cons (ps_while PassesOwn.never (pt_cmpR (op_eqX hr.units) (pe_m0 T.o_Reader O_Reader__due (hr.mono (by decide)) no0 (pv 0)) pe_str (nomark _)) (pss_one (ps_expr (pe_bm PySem.F.plainAttrs_list PySem.F.slot_list_append PySem.F.type_list_append mt_append (pv 1) (pa_cons (pe_cO O_read_after (hr.mono (by decide)) rfl (pa_cons (pv 0) (pa_cons pe_str (pa_cons (pe_glob rfl T.kv_read_condition rfl) pa_nil)))) pa_nil)))))
    (pss_one (ps_ret (pe_callTy c_tuple (by rfl) T.b_tuple (by decide +kernel) (pa_cons (pv 1) pa_nil)))))))

def t_read_conditional (K : PySem.W.Frag) (V_read_number : Addr) (sp_read_after_ : Sp) (sp_read_conditions_ : Sp) : TS := (tSeq (tAsg (tCallO sp_read_conditions_ (tCons (tVar 0) tNil)) (gName 1))
    (tRet (tTup (tCons (tVar 1) (tCons (tCallO sp_read_after_ (tCons (tVar 0) (tCons (tC (.str "at")) (tCons (tC (.ref V_read_number)) tNil)))) tNil)))))
theorem d_read_conditional {sp_read_after_ : Sp} {sp_read_conditions_ : Sp} {E : XK} {f : Addr} {A : Around} {outer : List Env} {s : Shared} {H : Hp} {cdv : Value} (hr : Room 10 (A.deeper (PyProof.Rows.envOfC "read_conditional" (defScope s_read_conditional) s.heap.objs.size f cdv))) (T : Txt K mg w D_READERS D_WORDS V_read_box V_read_condition V_read_conditional V_read_drop V_read_during V_read_first V_read_list V_read_nearest V_read_nothing V_read_number V_read_pair V_read_put V_read_skyline V_read_turn C_Reader tk_ALL tk_MOST_DIGITS) (O_read_after : Ok P w K mg base 9 "read_after" ["reader", "word", "read_one"] (sp_read_after_)) (O_read_conditions : Ok P w K mg base 10 "read_conditions" ["reader"] (sp_read_conditions_)) :
    PSs (cxOf CX0 P w K mg base N_read_conditional "read_conditional" (defScope s_read_conditional) f cdv A outer s H E).nox (defBody s_read_conditional) (t_read_conditional K V_read_number sp_read_after_ sp_read_conditions_) :=
  (pss_cons (ps_set (i := 1) sc_read_conditional.nd rfl (Or.inl rfl) (pe_cO O_read_conditions (hr.mono (by decide)) rfl (pa_cons (pv 0) pa_nil)))
    (pss_one (ps_ret (pe_tup (pa_cons (pv 1) (pa_cons (pe_cO O_read_after (hr.mono (by decide)) rfl (pa_cons (pv 0) (pa_cons pe_str (pa_cons (pe_glob rfl T.kv_read_number rfl) pa_nil)))) pa_nil))))))

def t_read_nearest (K : PySem.W.Frag) (V_read_number : Addr) (V_read_box : Addr) (sp_read_after_ : Sp) (sp_read_number_ : Sp) : TS := (tSeq (tAsg (tCallO sp_read_number_ (tCons (tVar 0) tNil)) (gName 1))
    (tSeq (tAsg (tCallO sp_read_after_ (tCons (tVar 0) (tCons (tC (.str "to")) (tCons (tC (.ref V_read_box)) tNil)))) (gName 2))
    (tRet (tTup (tCons (tVar 1) (tCons (tVar 2) (tCons (tCallO sp_read_after_ (tCons (tVar 0) (tCons (tC (.str "at")) (tCons (tC (.ref V_read_number)) tNil)))) tNil)))))))
theorem d_read_nearest {sp_read_after_ : Sp} {sp_read_number_ : Sp} {E : XK} {f : Addr} {A : Around} {outer : List Env} {s : Shared} {H : Hp} {cdv : Value} (hr : Room 9 (A.deeper (PyProof.Rows.envOfC "read_nearest" (defScope s_read_nearest) s.heap.objs.size f cdv))) (T : Txt K mg w D_READERS D_WORDS V_read_box V_read_condition V_read_conditional V_read_drop V_read_during V_read_first V_read_list V_read_nearest V_read_nothing V_read_number V_read_pair V_read_put V_read_skyline V_read_turn C_Reader tk_ALL tk_MOST_DIGITS) (O_read_after : Ok P w K mg base 9 "read_after" ["reader", "word", "read_one"] (sp_read_after_)) (O_read_number : Ok P w K mg base 5 "read_number" ["reader"] (sp_read_number_)) :
    PSs (cxOf CX0 P w K mg base N_read_nearest "read_nearest" (defScope s_read_nearest) f cdv A outer s H E).nox (defBody s_read_nearest) (t_read_nearest K V_read_number V_read_box sp_read_after_ sp_read_number_) :=
  (pss_cons (ps_set (i := 1) sc_read_nearest.nd rfl (Or.inl rfl) (pe_cO O_read_number (hr.mono (by decide)) rfl (pa_cons (pv 0) pa_nil)))
    (pss_cons (ps_set (i := 2) sc_read_nearest.nd rfl (Or.inl rfl) (pe_cO O_read_after (hr.mono (by decide)) rfl (pa_cons (pv 0) (pa_cons pe_str (pa_cons (pe_glob rfl T.kv_read_box rfl) pa_nil)))))
    (pss_one (ps_ret (pe_tup (pa_cons (pv 1) (pa_cons (pv 2) (pa_cons (pe_cO O_read_after (hr.mono (by decide)) rfl (pa_cons (pv 0) (pa_cons pe_str (pa_cons (pe_glob rfl T.kv_read_number rfl) pa_nil)))) pa_nil))))))))

def t_read_skyline (K : PySem.W.Frag) (V_read_number : Addr) (sp_read_after_ : Sp) : TS := (tRet (tTup (tCons (tCallO sp_read_after_ (tCons (tVar 0) (tCons (tC (.str "at")) (tCons (tC (.ref V_read_number)) tNil)))) tNil)))
theorem d_read_skyline {sp_read_after_ : Sp} {E : XK} {f : Addr} {A : Around} {outer : List Env} {s : Shared} {H : Hp} {cdv : Value} (hr : Room 9 (A.deeper (PyProof.Rows.envOfC "read_skyline" (defScope s_read_skyline) s.heap.objs.size f cdv))) (T : Txt K mg w D_READERS D_WORDS V_read_box V_read_condition V_read_conditional V_read_drop V_read_during V_read_first V_read_list V_read_nearest V_read_nothing V_read_number V_read_pair V_read_put V_read_skyline V_read_turn C_Reader tk_ALL tk_MOST_DIGITS) (O_read_after : Ok P w K mg base 9 "read_after" ["reader", "word", "read_one"] (sp_read_after_)) :
    PSs (cxOf CX0 P w K mg base N_read_skyline "read_skyline" (defScope s_read_skyline) f cdv A outer s H E).nox (defBody s_read_skyline) (t_read_skyline K V_read_number sp_read_after_) :=
  (pss_one (ps_ret (pe_tup (pa_cons (pe_cO O_read_after (hr.mono (by decide)) rfl (pa_cons (pv 0) (pa_cons pe_str (pa_cons (pe_glob rfl T.kv_read_number rfl) pa_nil)))) pa_nil))))

def t_read_during (K : PySem.W.Frag) (V_read_number : Addr) (sp_read_after_ : Sp) (sp_read_box_ : Sp) : TS := (tSeq (tAsg (tCallO sp_read_box_ (tCons (tVar 0) tNil)) (gName 1))
    (tSeq (tAsg (tCallO sp_read_after_ (tCons (tVar 0) (tCons (tC (.str "from")) (tCons (tC (.ref V_read_number)) tNil)))) (gName 2))
    (tRet (tTup (tCons (tVar 1) (tCons (tVar 2) (tCons (tCallO sp_read_after_ (tCons (tVar 0) (tCons (tC (.str "to")) (tCons (tC (.ref V_read_number)) tNil)))) tNil)))))))
theorem d_read_during {sp_read_after_ : Sp} {sp_read_box_ : Sp} {E : XK} {f : Addr} {A : Around} {outer : List Env} {s : Shared} {H : Hp} {cdv : Value} (hr : Room 9 (A.deeper (PyProof.Rows.envOfC "read_during" (defScope s_read_during) s.heap.objs.size f cdv))) (T : Txt K mg w D_READERS D_WORDS V_read_box V_read_condition V_read_conditional V_read_drop V_read_during V_read_first V_read_list V_read_nearest V_read_nothing V_read_number V_read_pair V_read_put V_read_skyline V_read_turn C_Reader tk_ALL tk_MOST_DIGITS) (O_read_after : Ok P w K mg base 9 "read_after" ["reader", "word", "read_one"] (sp_read_after_)) (O_read_box : Ok P w K mg base 7 "read_box" ["reader"] (sp_read_box_)) :
    PSs (cxOf CX0 P w K mg base N_read_during "read_during" (defScope s_read_during) f cdv A outer s H E).nox (defBody s_read_during) (t_read_during K V_read_number sp_read_after_ sp_read_box_) :=
  (pss_cons (ps_set (i := 1) sc_read_during.nd rfl (Or.inl rfl) (pe_cO O_read_box (hr.mono (by decide)) rfl (pa_cons (pv 0) pa_nil)))
    (pss_cons (ps_set (i := 2) sc_read_during.nd rfl (Or.inl rfl) (pe_cO O_read_after (hr.mono (by decide)) rfl (pa_cons (pv 0) (pa_cons pe_str (pa_cons (pe_glob rfl T.kv_read_number rfl) pa_nil)))))
    (pss_one (ps_ret (pe_tup (pa_cons (pv 1) (pa_cons (pv 2) (pa_cons (pe_cO O_read_after (hr.mono (by decide)) rfl (pa_cons (pv 0) (pa_cons pe_str (pa_cons (pe_glob rfl T.kv_read_number rfl) pa_nil)))) pa_nil))))))))

def t_read_first (K : PySem.W.Frag) (V_read_number : Addr) (C_Reader : Addr) (V_read_list : Addr) (sp_Reader__due_ : Sp) (sp_read_after_ : Sp) (sp_read_box_ : Sp) : TS := (tSeq (tAsg (tCallO sp_read_box_ (tCons (tVar 0) tNil)) (gName 1))
    (tSeq (tAsg (tCB (rTupOf K) (tCons (tLc (iX K (tVar 1)) (gName 4) tYes (tC (.int 0)) [4]) tNil)) (gName 2))
    (tCut (tIfS (tTest (tOp (rEqX K) (tM C_Reader "due" sp_Reader__due_ (fun _ => E0) (tVar 0) tNil) (tC (.str "speed")))) (tAsg (tCallO sp_read_after_ (tCons (tVar 0) (tCons (tC (.str "speed")) (tCons (tC (.ref V_read_list)) tNil)))) (gName 2)) tNext)
    (tSeq (tAsg (tCallO sp_read_after_ (tCons (tVar 0) (tCons (tC (.str "from")) (tCons (tC (.ref V_read_number)) tNil)))) (gName 3))
    (tRet (tTup (tCons (tVar 1) (tCons (tVar 2) (tCons (tVar 3) (tCons (tCallO sp_read_after_ (tCons (tVar 0) (tCons (tC (.str "to")) (tCons (tC (.ref V_read_number)) tNil)))) tNil))))))))))
theorem d_read_first {sp_Reader__due_ : Sp} {sp_read_after_ : Sp} {sp_read_box_ : Sp} {E : XK} {f : Addr} {A : Around} {outer : List Env} {s : Shared} {H : Hp} {cdv : Value} (hr : Room 9 (A.deeper (PyProof.Rows.envOfC "read_first" (defScope s_read_first) s.heap.objs.size f cdv))) (T : Txt K mg w D_READERS D_WORDS V_read_box V_read_condition V_read_conditional V_read_drop V_read_during V_read_first V_read_list V_read_nearest V_read_nothing V_read_number V_read_pair V_read_put V_read_skyline V_read_turn C_Reader tk_ALL tk_MOST_DIGITS) (O_Reader__due : OkM CX0 P w K mg base 3 C_Reader "due" ["self"] (sp_Reader__due_)) (O_read_after : Ok P w K mg base 9 "read_after" ["reader", "word", "read_one"] (sp_read_after_)) (O_read_box : Ok P w K mg base 7 "read_box" ["reader"] (sp_read_box_)) :
    PSs (cxOf CX0 P w K mg base N_read_first "read_first" (defScope s_read_first) f cdv A outer s H E).nox (defBody s_read_first) (t_read_first K V_read_number C_Reader V_read_list sp_Reader__due_ sp_read_after_ sp_read_box_) :=
  (pss_cons (ps_set (i := 1) sc_read_first.nd rfl (Or.inl rfl) (pe_cO O_read_box (hr.mono (by decide)) rfl (pa_cons (pv 0) pa_nil)))
    (pss_cons (ps_set (i := 2) sc_read_first.nd rfl (Or.inl rfl) (pe_callTy c_tuple (by rfl) T.b_tuple (by decide +kernel) (pa_cons (pe_lc (own := [("_", 4)]) (g := (gName 4)) (tt := tYes) (te := (tC (.int 0))) rfl sc_read_first.nd (pi_X (pv 1)) (blkOk_by (N := N_read_first) (sc := defScope s_read_first) (own := [("_", 4)]) (by decide +kernel)) (fun _ _ _ _ _ => (pg_name (i := 4) sc_read_first.nd rfl (Or.inl rfl))) (fun _ _ _ _ _ => pts_nil) (fun _ _ _ _ _ => pe_int)) pa_nil)))
    (pss_cut (ps_if (pt_cmpR (op_eqX hr.units) (pe_m0 T.o_Reader O_Reader__due (hr.mono (by decide)) no0 (pv 0)) pe_str (nomark _)) (pss_one (ps_set (i := 2) sc_read_first.nd rfl (Or.inl rfl) (pe_cO O_read_after (hr.mono (by decide)) rfl (pa_cons (pv 0) (pa_cons pe_str (pa_cons (pe_glob rfl T.kv_read_list rfl) pa_nil)))))) pss_nil)
    (pss_cons (ps_set (i := 3) sc_read_first.nd rfl (Or.inl rfl) (pe_cO O_read_after (hr.mono (by decide)) rfl (pa_cons (pv 0) (pa_cons pe_str (pa_cons (pe_glob rfl T.kv_read_number rfl) pa_nil)))))
    (pss_one (ps_ret (pe_tup (pa_cons (pv 1) (pa_cons (pv 2) (pa_cons (pv 3) (pa_cons (pe_cO O_read_after (hr.mono (by decide)) rfl (pa_cons (pv 0) (pa_cons pe_str (pa_cons (pe_glob rfl T.kv_read_number rfl) pa_nil)))) pa_nil)))))))))))

def t_read_nothing (K : PySem.W.Frag) : TS := (tRet (tTup tNil))
theorem d_read_nothing {E : XK} {f : Addr} {A : Around} {outer : List Env} {s : Shared} {H : Hp} {cdv : Value} (hr : Room 0 (A.deeper (PyProof.Rows.envOfC "read_nothing" (defScope s_read_nothing) s.heap.objs.size f cdv))) (T : Txt K mg w D_READERS D_WORDS V_read_box V_read_condition V_read_conditional V_read_drop V_read_during V_read_first V_read_list V_read_nearest V_read_nothing V_read_number V_read_pair V_read_put V_read_skyline V_read_turn C_Reader tk_ALL tk_MOST_DIGITS)  :
    PSs (cxOf CX0 P w K mg base N_read_nothing "read_nothing" (defScope s_read_nothing) f cdv A outer s H E).nox (defBody s_read_nothing) (t_read_nothing K) :=
  (pss_one (ps_ret (pe_tup pa_nil)))

def t_parse (K : PySem.W.Frag) (C_Reader : Addr) (V_read_nothing : Addr) (V_read_first : Addr) (V_read_during : Addr) (V_read_skyline : Addr) (V_read_nearest : Addr) (V_read_conditional : Addr) (V_read_turn : Addr) (V_read_drop : Addr) (V_read_put : Addr) (D_READERS : Addr) (sp_Reader____init___ : Sp) (sp_Reader__finish_ : Sp) (sp_Reader__take_ : Sp) (sp_read_conditional_ : Sp) (sp_read_drop_ : Sp) (sp_read_during_ : Sp) (sp_read_first_ : Sp) (sp_read_nearest_ : Sp) (sp_read_nothing_ : Sp) (sp_read_put_ : Sp) (sp_read_skyline_ : Sp) (sp_read_turn_ : Sp) : TS := (tSeq (tIfS (tNot (tB (tCB (rIsi K) (tCons (tVar 0) (tCons (tC (.ty "str")) tNil))))) tDead tNext)
    (tSeq (tAsg (tMake C_Reader sp_Reader____init___ [] E0 (tCons (tVar 0) tNil)) (gName 1))
    (tSeq (tAsg (tM C_Reader "take" sp_Reader__take_ (fun _ => E0) (tVar 1) (tCons (tCB (rListKd D_READERS [.str "put", .str "drop", .str "turn", .str "select", .str "count", .str "nearest", .str "skyline", .str "during", .str "first", .str "commit", .str "rollback"]) (tCons (tC (.ref D_READERS)) tNil)) tNil)) (gName 2))
    (tSeq (tAsg (tOp (rKd K D_READERS) (tC (.ref D_READERS)) (tVar 2)) (gName 3))
    (tSeq (tAsg (tEi (tCallL 3 V_read_put sp_read_put_ [] E0 (tCons (tVar 1) tNil)) (tEi (tCallL 3 V_read_drop sp_read_drop_ [] E0 (tCons (tVar 1) tNil)) (tEi (tCallL 3 V_read_turn sp_read_turn_ [] E0 (tCons (tVar 1) tNil)) (tEi (tCallL 3 V_read_conditional sp_read_conditional_ [] E0 (tCons (tVar 1) tNil)) (tEi (tCallL 3 V_read_nearest sp_read_nearest_ [] E0 (tCons (tVar 1) tNil)) (tEi (tCallL 3 V_read_skyline sp_read_skyline_ [] E0 (tCons (tVar 1) tNil)) (tEi (tCallL 3 V_read_during sp_read_during_ [] E0 (tCons (tVar 1) tNil)) (tEi (tCallL 3 V_read_first sp_read_first_ [] E0 (tCons (tVar 1) tNil)) (tCallL 3 V_read_nothing sp_read_nothing_ [] E0 (tCons (tVar 1) tNil)))))))))) (gName 4))
    (tSeq (tDrop (tM C_Reader "finish" sp_Reader__finish_ (fun _ => E0) (tVar 1) tNil))
    (tRet (tTup (tCons (tVar 2) (StX.tStar K (tVar 4) tNil))))))))))
theorem d_parse {sp_Reader____init___ : Sp} {sp_Reader__finish_ : Sp} {sp_Reader__take_ : Sp} {sp_read_conditional_ : Sp} {sp_read_drop_ : Sp} {sp_read_during_ : Sp} {sp_read_first_ : Sp} {sp_read_nearest_ : Sp} {sp_read_nothing_ : Sp} {sp_read_put_ : Sp} {sp_read_skyline_ : Sp} {sp_read_turn_ : Sp} {E : XK} {f : Addr} {A : Around} {outer : List Env} {s : Shared} {H : Hp} {cdv : Value} (hr : Room 11 (A.deeper (PyProof.Rows.envOfC "parse" (defScope s_parse) s.heap.objs.size f cdv))) (T : Txt K mg w D_READERS D_WORDS V_read_box V_read_condition V_read_conditional V_read_drop V_read_during V_read_first V_read_list V_read_nearest V_read_nothing V_read_number V_read_pair V_read_put V_read_skyline V_read_turn C_Reader tk_ALL tk_MOST_DIGITS) (O_Reader____init__ : OkI CX0 P w K mg base 2 C_Reader "Reader" ["self", "text"] (sp_Reader____init___)) (O_Reader__finish : OkM CX0 P w K mg base 3 C_Reader "finish" ["self"] (sp_Reader__finish_)) (O_Reader__take : OkM CX0 P w K mg base 4 C_Reader "take" ["self", "tokens"] (sp_Reader__take_)) (O_read_conditional : Ok P w K mg base 11 "read_conditional" ["reader"] (sp_read_conditional_)) (O_read_drop : Ok P w K mg base 6 "read_drop" ["reader"] (sp_read_drop_)) (O_read_during : Ok P w K mg base 10 "read_during" ["reader"] (sp_read_during_)) (O_read_first : Ok P w K mg base 10 "read_first" ["reader"] (sp_read_first_)) (O_read_nearest : Ok P w K mg base 10 "read_nearest" ["reader"] (sp_read_nearest_)) (O_read_nothing : Ok P w K mg base 1 "read_nothing" ["_"] (sp_read_nothing_)) (O_read_put : Ok P w K mg base 10 "read_put" ["reader"] (sp_read_put_)) (O_read_skyline : Ok P w K mg base 10 "read_skyline" ["reader"] (sp_read_skyline_)) (O_read_turn : Ok P w K mg base 10 "read_turn" ["reader"] (sp_read_turn_)) :
    PSs (cxOf CX0 P w K mg base N_parse "parse" (defScope s_parse) f cdv A outer s H E).nox (defBody s_parse) (t_parse K C_Reader V_read_nothing V_read_first V_read_during V_read_skyline V_read_nearest V_read_conditional V_read_turn V_read_drop V_read_put D_READERS sp_Reader____init___ sp_Reader__finish_ sp_Reader__take_ sp_read_conditional_ sp_read_drop_ sp_read_during_ sp_read_first_ sp_read_nearest_ sp_read_nothing_ sp_read_put_ sp_read_skyline_ sp_read_turn_) :=
  (pss_cons (ps_if (pt_not (pt_val (pe_callB call_isi (by rfl) T.b_isinstance (by decide +kernel) (pa_cons (pv 0) (pa_cons (pe_bltn (v := .ty "str") (by rfl) T.b_str (by decide +kernel) rfl) pa_nil))))) (pss_one ps_dead) pss_nil)
    (pss_cons (ps_set (i := 1) sc_parse.nd rfl (Or.inl rfl) (pe_mkA O_Reader____init__ (hr.mono (by decide)) rfl (pa_cons (pv 0) pa_nil)))
    (pss_cons (ps_set (i := 2) sc_parse.nd rfl (Or.inl rfl) (pe_m T.o_Reader O_Reader__take (hr.mono (by decide)) no0 (pv 1) (pa_cons (pe_callTy (c_listKd rfl T.kk_READERS) (by rfl) T.b_list (by decide +kernel) (pa_cons (pe_glob rfl T.km_READERS rfl) pa_nil)) pa_nil)))
    (pss_cons (ps_set (i := 3) sc_parse.nd rfl (Or.inl rfl) (pe_ix (ix_kd T.kd_READERS) (pe_glob rfl T.km_READERS rfl) (pv 2) (fun _ _ => rfl)))
    (pss_cons (ps_set (i := 4) sc_parse.nd rfl (Or.inl rfl) (pe_ei (pe_callV O_read_put T.kv_read_put (i := 3) (hr.mono (by decide)) rfl (Or.inl rfl) (pa_cons (pv 1) pa_nil)) (pe_ei (pe_callV O_read_drop T.kv_read_drop (i := 3) (hr.mono (by decide)) rfl (Or.inl rfl) (pa_cons (pv 1) pa_nil)) (pe_ei (pe_callV O_read_turn T.kv_read_turn (i := 3) (hr.mono (by decide)) rfl (Or.inl rfl) (pa_cons (pv 1) pa_nil)) (pe_ei (pe_callV O_read_conditional T.kv_read_conditional (i := 3) (hr.mono (by decide)) rfl (Or.inl rfl) (pa_cons (pv 1) pa_nil)) (pe_ei (pe_callV O_read_nearest T.kv_read_nearest (i := 3) (hr.mono (by decide)) rfl (Or.inl rfl) (pa_cons (pv 1) pa_nil)) (pe_ei (pe_callV O_read_skyline T.kv_read_skyline (i := 3) (hr.mono (by decide)) rfl (Or.inl rfl) (pa_cons (pv 1) pa_nil)) (pe_ei (pe_callV O_read_during T.kv_read_during (i := 3) (hr.mono (by decide)) rfl (Or.inl rfl) (pa_cons (pv 1) pa_nil)) (pe_ei (pe_callV O_read_first T.kv_read_first (i := 3) (hr.mono (by decide)) rfl (Or.inl rfl) (pa_cons (pv 1) pa_nil)) (pe_callV O_read_nothing T.kv_read_nothing (i := 3) (hr.mono (by decide)) rfl (Or.inl rfl) (pa_cons (pv 1) pa_nil)))))))))))
    (pss_cons (ps_expr (pe_m0 T.o_Reader O_Reader__finish (hr.mono (by decide)) no0 (pv 1)))
    (pss_one (ps_ret (pe_tup (pa_cons (pv 2) (StX.pa_star (pv 4) pa_nil)))))))))))

def t__law_so (K : PySem.W.Frag) (sp__law_so_ : Sp) : TS := (tSeq (tIfS (tTest (tOp rIsNon (tVar 1) (tC .non))) (tRet (tOp rIsNon (tVar 0) (tC .non))) tNext)
    (tSeq (tIfS (tB (tCB (rIsi K) (tCons (tVar 1) (tCons (tC (.ty "tuple")) tNil)))) (tSeq (tIfS (tOr (tNot (tB (tCB (rIsi K) (tCons (tVar 0) (tCons (tC (.ty "tuple")) tNil))))) (tTest (tOp (rNeX K) (tCB (rLen K) (tCons (tVar 0) tNil)) (tCB (rLen K) (tCons (tVar 1) tNil))))) (tRet (tC (.bl false))) tNext)
    (tSeq (tFor (iRng1 (tCons (tCB (rLen K) (tCons (tVar 1) tNil)) tNil)) (gName 2) (tIfS (tNot (tB (tCallO sp__law_so_ (tCons (tOp (rIxX K) (tVar 0) (tVar 2)) (tCons (tOp (rIxX K) (tVar 1) (tVar 2)) tNil))))) (tRet (tC (.bl false))) tNext))
    (tRet (tC (.bl true))))) tNext)
    (tSeq (tIfS (tOr (tB (tCB (rIsi K) (tCons (tVar 1) (tCons (tC (.ty "bool")) tNil)))) (tB (tCB (rIsi K) (tCons (tVar 0) (tCons (tC (.ty "bool")) tNil))))) (tRet (tAndV (tCB (rIsi K) (tCons (tVar 1) (tCons (tC (.ty "bool")) tNil))) (tAndV (tCB (rIsi K) (tCons (tVar 0) (tCons (tC (.ty "bool")) tNil))) (tOp (rEqX K) (tVar 0) (tVar 1))))) tNext)
    (tSeq (tIfS (tB (tCB (rIsi K) (tCons (tVar 1) (tCons (tC (.ty "int")) tNil)))) (tRet (tAndV (tCB (rIsi K) (tCons (tVar 0) (tCons (tC (.ty "int")) tNil))) (tOp (rEqX K) (tVar 0) (tVar 1)))) tNext)
    (tRet (tAndV (tCB (rIsi K) (tCons (tVar 1) (tCons (tC (.ty "str")) tNil))) (tAndV (tCB (rIsi K) (tCons (tVar 0) (tCons (tC (.ty "str")) tNil))) (tOp (rEqX K) (tVar 0) (tVar 1)))))))))
theorem d__law_so {sp__law_so_ : Sp} {E : XK} {f : Addr} {A : Around} {outer : List Env} {s : Shared} {H : Hp} {cdv : Value} {k_ : Nat} (hr : Room k_ (A.deeper (PyProof.Rows.envOfC "_law_so" (defScope s__law_so) s.heap.objs.size f cdv))) (T : Txt K mg w D_READERS D_WORDS V_read_box V_read_condition V_read_conditional V_read_drop V_read_during V_read_first V_read_list V_read_nearest V_read_nothing V_read_number V_read_pair V_read_put V_read_skyline V_read_turn C_Reader tk_ALL tk_MOST_DIGITS) (O__law_so : Ok P w K mg base k_ "_law_so" ["found", "meant"] (sp__law_so_)) :
    PSs (cxOf CX0 P w K mg base N__law_so "_law_so" (defScope s__law_so) f cdv A outer s H E).nox (defBody s__law_so) (t__law_so K sp__law_so_) :=
  (pss_cons (ps_if (pt_cmpR o_isN (pv 1) pe_non (nomark _)) (pss_one (ps_ret (pe_cmpR o_isN (pv 0) pe_non (nomark _)))) pss_nil)
    (pss_cons (ps_if (pt_val (pe_callB call_isi (by rfl) T.b_isinstance (by decide +kernel) (pa_cons (pv 1) (pa_cons (pe_bltn (v := .ty "tuple") (by rfl) T.b_tuple (by decide +kernel) rfl) pa_nil)))) (pss_cons (ps_if (PW.pt (pw_or (pt_not (pt_val (pe_callB call_isi (by rfl) T.b_isinstance (by decide +kernel) (pa_cons (pv 0) (pa_cons (pe_bltn (v := .ty "tuple") (by rfl) T.b_tuple (by decide +kernel) rfl) pa_nil))))) (pw_or1 (pt_cmpR (op_neX hr.units) (pe_callB c_len (by rfl) T.b_len (by decide +kernel) (pa_cons (pv 0) pa_nil)) (pe_callB c_len (by rfl) T.b_len (by decide +kernel) (pa_cons (pv 1) pa_nil)) (nomark _))))) (pss_one (ps_ret pe_bl)) pss_nil)
    (pss_cons (ps_for PassesOwn.never rfl (pi_range1 (by rfl) T.b_range (pa_cons (pe_callB c_len (by rfl) T.b_len (by decide +kernel) (pa_cons (pv 1) pa_nil)) pa_nil)) (pg_name (i := 2) sc__law_so.nd rfl (Or.inl rfl)) (pss_one (ps_if (pt_not (pt_val (pe_cO O__law_so hr rfl (pa_cons (pe_ix ix_X (pv 0) (pv 2) (fun _ _ => rfl)) (pa_cons (pe_ix ix_X (pv 1) (pv 2) (fun _ _ => rfl)) pa_nil))))) (pss_one (ps_ret pe_bl)) pss_nil)))
    (pss_one (ps_ret pe_bl)))) pss_nil)
    (pss_cons (ps_if (PW.pt (pw_or (pt_val (pe_callB call_isi (by rfl) T.b_isinstance (by decide +kernel) (pa_cons (pv 1) (pa_cons (pe_bltn (v := .ty "bool") (by rfl) T.b_bool (by decide +kernel) rfl) pa_nil)))) (pw_or1 (pt_val (pe_callB call_isi (by rfl) T.b_isinstance (by decide +kernel) (pa_cons (pv 0) (pa_cons (pe_bltn (v := .ty "bool") (by rfl) T.b_bool (by decide +kernel) rfl) pa_nil))))))) (pss_one (ps_ret (pe_and (pe_callB call_isi (by rfl) T.b_isinstance (by decide +kernel) (pa_cons (pv 1) (pa_cons (pe_bltn (v := .ty "bool") (by rfl) T.b_bool (by decide +kernel) rfl) pa_nil))) (pe_and (pe_callB call_isi (by rfl) T.b_isinstance (by decide +kernel) (pa_cons (pv 0) (pa_cons (pe_bltn (v := .ty "bool") (by rfl) T.b_bool (by decide +kernel) rfl) pa_nil))) (pe_one (pe_cmpR (op_eqX hr.units) (pv 0) (pv 1) (nomark _))))))) pss_nil)
    (pss_cons (ps_if (pt_val (pe_callB call_isi (by rfl) T.b_isinstance (by decide +kernel) (pa_cons (pv 1) (pa_cons (pe_bltn (v := .ty "int") (by rfl) T.b_int (by decide +kernel) rfl) pa_nil)))) (pss_one (ps_ret (pe_and (pe_callB call_isi (by rfl) T.b_isinstance (by decide +kernel) (pa_cons (pv 0) (pa_cons (pe_bltn (v := .ty "int") (by rfl) T.b_int (by decide +kernel) rfl) pa_nil))) (pe_one (pe_cmpR (op_eqX hr.units) (pv 0) (pv 1) (nomark _)))))) pss_nil)
    (pss_one (ps_ret (pe_and (pe_callB call_isi (by rfl) T.b_isinstance (by decide +kernel) (pa_cons (pv 1) (pa_cons (pe_bltn (v := .ty "str") (by rfl) T.b_str (by decide +kernel) rfl) pa_nil))) (pe_and (pe_callB call_isi (by rfl) T.b_isinstance (by decide +kernel) (pa_cons (pv 0) (pa_cons (pe_bltn (v := .ty "str") (by rfl) T.b_str (by decide +kernel) rfl) pa_nil))) (pe_one (pe_cmpR (op_eqX hr.units) (pv 0) (pv 1) (nomark _)))))))))))

def t__law_numbers (K : PySem.W.Frag) : TS := (tSeq (tAsg (tLst tNil) (gName 1))
    (tSeq (tFor (iX K (tSl (rSlX K) (tVar 0) tNoPart (tPart (tC (.int 63))))) (gName 2) (tIfS (tTest (tOp rGe (tVar 2) (tOp rPow (tC (.int 10)) (tC (.int 18))))) (tSeq (tAsg (tVar 2) (gName 3))
    (tFor (iRng1 (tCons (tC (.int 60)) tNil)) (gName 4) (tSeq (tIfS (tTest (tOp (rEqX K) (tVar 3) (tC (.int 0)))) tBreak tNext)
    (tSeq (tDrop (tBM K "list" rAppend (tVar 1) (tCons (tOp rModI (tCB rIntO (tCons (tVar 3) tNil)) (tC (.int 997))) tNil)))
    (tAsg (tOp rFdv (tVar 3) (tC (.int 997))) (gName 3)))))) (tFor (iRng1 (tCons (tC (.int 4)) tNil)) (gName 4) (tSeq (tAsg (tOp rModI (tCB rIntO (tCons (tOp (rAddX K) (tOp (rAddX K) (tOp (rMulX K) (tVar 2) (tC (.int 48271))) (tOp (rMulX K) (tVar 4) (tC (.int 69621)))) (tC (.int 11))) tNil)) (tC (.int 2147483647))) (gName 5))
    (tDrop (tBM K "list" rAppend (tVar 1) (tCons (tOp rModI (tCB rIntO (tCons (tOp (rAddX K) (tOp (rMulX K) (tVar 5) (tC (.int 16807))) (tVar 4)) tNil)) (tC (.int 2147483629))) tNil)))))))
    (tCut (tIfS (tTest (tOp (rEqX K) (tCB (rLen K) (tCons (tVar 1) tNil)) (tC (.int 0)))) (tDrop (tBM K "list" rAppend (tVar 1) (tCons (tC (.int 0)) tNil))) tNext)
    (tRet (tVar 1)))))
theorem d__law_numbers {E : XK} {f : Addr} {A : Around} {outer : List Env} {s : Shared} {H : Hp} {cdv : Value} (hr : Room 0 (A.deeper (PyProof.Rows.envOfC "_law_numbers" (defScope s__law_numbers) s.heap.objs.size f cdv))) (T : Txt K mg w D_READERS D_WORDS V_read_box V_read_condition V_read_conditional V_read_drop V_read_during V_read_first V_read_list V_read_nearest V_read_nothing V_read_number V_read_pair V_read_put V_read_skyline V_read_turn C_Reader tk_ALL tk_MOST_DIGITS)  :
    PSs (cxOf CX0 P w K mg base N__law_numbers "_law_numbers" (defScope s__law_numbers) f cdv A outer s H E).nox (defBody s__law_numbers) (t__law_numbers K) :=
  (pss_cons (ps_set (i := 1) sc__law_numbers.nd rfl (Or.inl rfl) (pe_lst pa_nil))
    (pss_cons (ps_for PassesOwn.never rfl (pi_X (pe_slice sl_X (pv 0) po_none (po_some pe_int))) (pg_name (i := 2) sc__law_numbers.nd rfl (Or.inl rfl)) (pss_one (ps_if (pt_cmpR o_ge (pv 2) (pe_op o_pow pe_int pe_int) (nomark _)) (pss_cons (ps_set (i := 3) sc__law_numbers.nd rfl (Or.inl rfl) (pv 2))
    (pss_one (ps_for PassesOwn.never rfl (pi_range1 (by rfl) T.b_range (pa_cons pe_int pa_nil)) (pg_name (i := 4) sc__law_numbers.nd rfl (Or.inl rfl)) (pss_cons (ps_if (pt_cmpR (op_eqX hr.units) (pv 3) pe_int (nomark _)) (pss_one ps_break) pss_nil)
    (pss_cons (ps_expr (pe_bm PySem.F.plainAttrs_list PySem.F.slot_list_append PySem.F.type_list_append mt_append (pv 1) (pa_cons (pe_op o_mod (pe_callTy c_int (by rfl) T.b_int (by decide +kernel) (pa_cons (pv 3) pa_nil)) pe_int) pa_nil)))
    (pss_one (ps_set (i := 3) sc__law_numbers.nd rfl (Or.inl rfl) (pe_op o_fdiv (pv 3) pe_int)))))))) (pss_one (ps_for PassesOwn.never rfl (pi_range1 (by rfl) T.b_range (pa_cons pe_int pa_nil)) (pg_name (i := 4) sc__law_numbers.nd rfl (Or.inl rfl)) (pss_cons (ps_set (i := 5) sc__law_numbers.nd rfl (Or.inl rfl) (pe_op o_mod (pe_callTy c_int (by rfl) T.b_int (by decide +kernel) (pa_cons (pe_op op_addX (pe_op op_addX (pe_op op_mulX (pv 2) pe_int) (pe_op op_mulX (pv 4) pe_int)) pe_int) pa_nil)) pe_int))
    (pss_one (ps_expr (pe_bm PySem.F.plainAttrs_list PySem.F.slot_list_append PySem.F.type_list_append mt_append (pv 1) (pa_cons (pe_op o_mod (pe_callTy c_int (by rfl) T.b_int (by decide +kernel) (pa_cons (pe_op op_addX (pe_op op_mulX (pv 5) pe_int) (pv 4)) pa_nil)) pe_int) pa_nil))))))))))
    (pss_cut (ps_if (pt_cmpR (op_eqX hr.units) (pe_callB c_len (by rfl) T.b_len (by decide +kernel) (pa_cons (pv 1) pa_nil)) pe_int (nomark _)) (pss_one (ps_expr (pe_bm PySem.F.plainAttrs_list PySem.F.slot_list_append PySem.F.type_list_append mt_append (pv 1) (pa_cons pe_int pa_nil)))) pss_nil)
    (pss_one (ps_ret (pv 1))))))

def t__law_draw (K : PySem.W.Frag) : TS := (tSeq (tIfS (tTest (tOp rLt (tVar 1) (tCB (rLen K) (tCons (tVar 0) tNil)))) (tRet (tOp rModI (tCB rIntO (tCons (tOp (rIxX K) (tVar 0) (tVar 1)) tNil)) (tVar 2))) tNext)
    (tSeq (tAsg (tOp rModI (tCB rIntO (tCons (tOp (rAddX K) (tOp (rAddX K) (tOp (rMulX K) (tOp (rIxX K) (tVar 0) (tOp rModI (tCB rIntO (tCons (tVar 1) tNil)) (tCB (rLen K) (tCons (tVar 0) tNil)))) (tC (.int 40692))) (tOp (rMulX K) (tVar 1) (tC (.int 7919)))) (tC (.int 3))) tNil)) (tC (.int 2147483399))) (gName 3))
    (tRet (tOp rModI (tCB rIntO (tCons (tOp rModI (tCB rIntO (tCons (tOp (rAddX K) (tOp (rMulX K) (tVar 3) (tC (.int 48271))) (tVar 1)) tNil)) (tC (.int 2147483647))) tNil)) (tVar 2)))))
theorem d__law_draw {E : XK} {f : Addr} {A : Around} {outer : List Env} {s : Shared} {H : Hp} {cdv : Value} (hr : Room 0 (A.deeper (PyProof.Rows.envOfC "_law_draw" (defScope s__law_draw) s.heap.objs.size f cdv))) (T : Txt K mg w D_READERS D_WORDS V_read_box V_read_condition V_read_conditional V_read_drop V_read_during V_read_first V_read_list V_read_nearest V_read_nothing V_read_number V_read_pair V_read_put V_read_skyline V_read_turn C_Reader tk_ALL tk_MOST_DIGITS)  :
    PSs (cxOf CX0 P w K mg base N__law_draw "_law_draw" (defScope s__law_draw) f cdv A outer s H E).nox (defBody s__law_draw) (t__law_draw K) :=
  (pss_cons (ps_if (pt_cmpR o_lt (pv 1) (pe_callB c_len (by rfl) T.b_len (by decide +kernel) (pa_cons (pv 0) pa_nil)) (nomark _)) (pss_one (ps_ret (pe_op o_mod (pe_callTy c_int (by rfl) T.b_int (by decide +kernel) (pa_cons (pe_ix ix_X (pv 0) (pv 1) (fun _ _ => rfl)) pa_nil)) (pv 2)))) pss_nil)
    (pss_cons (ps_set (i := 3) sc__law_draw.nd rfl (Or.inl rfl) (pe_op o_mod (pe_callTy c_int (by rfl) T.b_int (by decide +kernel) (pa_cons (pe_op op_addX (pe_op op_addX (pe_op op_mulX (pe_ix ix_X (pv 0) (pe_op o_mod (pe_callTy c_int (by rfl) T.b_int (by decide +kernel) (pa_cons (pv 1) pa_nil)) (pe_callB c_len (by rfl) T.b_len (by decide +kernel) (pa_cons (pv 0) pa_nil))) (fun _ _ => rfl)) pe_int) (pe_op op_mulX (pv 1) pe_int)) pe_int) pa_nil)) pe_int))
    (pss_one (ps_ret (pe_op o_mod (pe_callTy c_int (by rfl) T.b_int (by decide +kernel) (pa_cons (pe_op o_mod (pe_callTy c_int (by rfl) T.b_int (by decide +kernel) (pa_cons (pe_op op_addX (pe_op op_mulX (pv 3) pe_int) (pv 1)) pa_nil)) pe_int) pa_nil)) (pv 2))))))

def t__law_take (K : PySem.W.Frag) (sp__law_draw_ : Sp) : TS := (tSeq (tAsg (tOp (rAddX K) (tOp (rIxX K) (tVar 1) (tC (.int 0))) (tC (.int 1))) (gSub (tVar 1) (tC (.int 0)) rSetL))
    (tRet (tCallO sp__law_draw_ (tCons (tVar 0) (tCons (tOp rSub (tOp (rIxX K) (tVar 1) (tC (.int 0))) (tC (.int 1))) (tCons (tVar 2) tNil))))))
theorem d__law_take {sp__law_draw_ : Sp} {E : XK} {f : Addr} {A : Around} {outer : List Env} {s : Shared} {H : Hp} {cdv : Value} (hr : Room 1 (A.deeper (PyProof.Rows.envOfC "_law_take" (defScope s__law_take) s.heap.objs.size f cdv))) (T : Txt K mg w D_READERS D_WORDS V_read_box V_read_condition V_read_conditional V_read_drop V_read_during V_read_first V_read_list V_read_nearest V_read_nothing V_read_number V_read_pair V_read_put V_read_skyline V_read_turn C_Reader tk_ALL tk_MOST_DIGITS) (O__law_draw : Ok P w K mg base 1 "_law_draw" ["row", "at", "limit"] (sp__law_draw_)) :
    PSs (cxOf CX0 P w K mg base N__law_take "_law_take" (defScope s__law_take) f cdv A outer s H E).nox (defBody s__law_take) (t__law_take K sp__law_draw_) :=
  (pss_cons (ps_asg (pe_op op_addX (pe_ix ix_X (pv 1) pe_int (fun _ _ => rfl)) pe_int) (pg_sub (pv 1) pe_int set_list))
    (pss_one (ps_ret (pe_cO O__law_draw (hr.mono (by decide)) rfl (pa_cons (pv 0) (pa_cons (pe_op o_sub (pe_ix ix_X (pv 1) pe_int (fun _ _ => rfl)) pe_int) (pa_cons (pv 2) pa_nil)))))))

def t__law_wide (K : PySem.W.Frag) (sp__law_take_ : Sp) : TS := (tSeq (tAsg (tCallO sp__law_take_ (tCons (tVar 0) (tCons (tVar 1) (tCons (tC (.int 997)) tNil)))) (gName 3))
    (tSeq (tAsg (tCallO sp__law_take_ (tCons (tVar 0) (tCons (tVar 1) (tCons (tC (.int 997)) tNil)))) (gName 4))
    (tSeq (tAsg (tCallO sp__law_take_ (tCons (tVar 0) (tCons (tVar 1) (tCons (tC (.int 997)) tNil)))) (gName 5))
    (tRet (tOp rModI (tCB rIntO (tCons (tOp (rAddX K) (tOp (rAddX K) (tOp (rMulX K) (tVar 3) (tC (.int 994009))) (tOp (rMulX K) (tVar 4) (tC (.int 997)))) (tVar 5)) tNil)) (tVar 2))))))
theorem d__law_wide {sp__law_take_ : Sp} {E : XK} {f : Addr} {A : Around} {outer : List Env} {s : Shared} {H : Hp} {cdv : Value} (hr : Room 2 (A.deeper (PyProof.Rows.envOfC "_law_wide" (defScope s__law_wide) s.heap.objs.size f cdv))) (T : Txt K mg w D_READERS D_WORDS V_read_box V_read_condition V_read_conditional V_read_drop V_read_during V_read_first V_read_list V_read_nearest V_read_nothing V_read_number V_read_pair V_read_put V_read_skyline V_read_turn C_Reader tk_ALL tk_MOST_DIGITS) (O__law_take : Ok P w K mg base 2 "_law_take" ["row", "spot", "limit"] (sp__law_take_)) :
    PSs (cxOf CX0 P w K mg base N__law_wide "_law_wide" (defScope s__law_wide) f cdv A outer s H E).nox (defBody s__law_wide) (t__law_wide K sp__law_take_) :=
  (pss_cons (ps_set (i := 3) sc__law_wide.nd rfl (Or.inl rfl) (pe_cO O__law_take (hr.mono (by decide)) rfl (pa_cons (pv 0) (pa_cons (pv 1) (pa_cons pe_int pa_nil)))))
    (pss_cons (ps_set (i := 4) sc__law_wide.nd rfl (Or.inl rfl) (pe_cO O__law_take (hr.mono (by decide)) rfl (pa_cons (pv 0) (pa_cons (pv 1) (pa_cons pe_int pa_nil)))))
    (pss_cons (ps_set (i := 5) sc__law_wide.nd rfl (Or.inl rfl) (pe_cO O__law_take (hr.mono (by decide)) rfl (pa_cons (pv 0) (pa_cons (pv 1) (pa_cons pe_int pa_nil)))))
    (pss_one (ps_ret (pe_op o_mod (pe_callTy c_int (by rfl) T.b_int (by decide +kernel) (pa_cons (pe_op op_addX (pe_op op_addX (pe_op op_mulX (pv 3) pe_int) (pe_op op_mulX (pv 4) pe_int)) (pv 5)) pa_nil)) (pv 2)))))))

def t__law_figure (K : PySem.W.Frag) (sp__law_take_ : Sp) (sp__law_wide_ : Sp) : TS := (tSeq (tAsg (tOp rSub (tCallO sp__law_take_ (tCons (tVar 0) (tCons (tVar 1) (tCons (tC (.int 41)) tNil)))) (tC (.int 20))) (gName 2))
    (tSeq (tAsg (tOp (rAddX K) (tOp (rMulX K) (tCallO sp__law_wide_ (tCons (tVar 0) (tCons (tVar 1) (tCons (tC (.int 991026973)) tNil)))) (tC (.int 997))) (tCallO sp__law_take_ (tCons (tVar 0) (tCons (tVar 1) (tCons (tC (.int 997)) tNil))))) (gName 3))
    (tRet (tOp (rIxX K) (tLst (tCons (tVar 2) (tCons (tVar 2) (tCons (tVar 3) (tCons (tUn rNeg (tVar 3)) (tCons (tC (.int 999999999999)) (tCons (tUn rNeg (tC (.int 999999999999))) (tCons (tC (.int 0)) tNil)))))))) (tCallO sp__law_take_ (tCons (tVar 0) (tCons (tVar 1) (tCons (tC (.int 7)) tNil))))))))
theorem d__law_figure {sp__law_take_ : Sp} {sp__law_wide_ : Sp} {E : XK} {f : Addr} {A : Around} {outer : List Env} {s : Shared} {H : Hp} {cdv : Value} (hr : Room 3 (A.deeper (PyProof.Rows.envOfC "_law_figure" (defScope s__law_figure) s.heap.objs.size f cdv))) (T : Txt K mg w D_READERS D_WORDS V_read_box V_read_condition V_read_conditional V_read_drop V_read_during V_read_first V_read_list V_read_nearest V_read_nothing V_read_number V_read_pair V_read_put V_read_skyline V_read_turn C_Reader tk_ALL tk_MOST_DIGITS) (O__law_take : Ok P w K mg base 2 "_law_take" ["row", "spot", "limit"] (sp__law_take_)) (O__law_wide : Ok P w K mg base 3 "_law_wide" ["row", "spot", "limit"] (sp__law_wide_)) :
    PSs (cxOf CX0 P w K mg base N__law_figure "_law_figure" (defScope s__law_figure) f cdv A outer s H E).nox (defBody s__law_figure) (t__law_figure K sp__law_take_ sp__law_wide_) :=
  (pss_cons (ps_set (i := 2) sc__law_figure.nd rfl (Or.inl rfl) (pe_op o_sub (pe_cO O__law_take (hr.mono (by decide)) rfl (pa_cons (pv 0) (pa_cons (pv 1) (pa_cons pe_int pa_nil)))) pe_int))
    (pss_cons (ps_set (i := 3) sc__law_figure.nd rfl (Or.inl rfl) (pe_op op_addX (pe_op op_mulX (pe_cO O__law_wide (hr.mono (by decide)) rfl (pa_cons (pv 0) (pa_cons (pv 1) (pa_cons pe_int pa_nil)))) pe_int) (pe_cO O__law_take (hr.mono (by decide)) rfl (pa_cons (pv 0) (pa_cons (pv 1) (pa_cons pe_int pa_nil))))))
    (pss_one (ps_ret (pe_ix ix_X (pe_lst (pa_cons (pv 2) (pa_cons (pv 2) (pa_cons (pv 3) (pa_cons (pe_un u_neg (pv 3)) (pa_cons pe_int (pa_cons (pe_un u_neg pe_int) (pa_cons pe_int pa_nil)))))))) (pe_cO O__law_take (hr.mono (by decide)) rfl (pa_cons (pv 0) (pa_cons (pv 1) (pa_cons pe_int pa_nil)))) (fun _ _ => rfl))))))

def t__law_any_box (K : PySem.W.Frag) (sp__law_figure_ : Sp) (sp__law_take_ : Sp) : TS := (tSeq (tAsg (tLst tNil) (gName 2))
    (tSeq (tFor (iRng1 (tCons (tOp (rAddX K) (tC (.int 1)) (tCallO sp__law_take_ (tCons (tVar 0) (tCons (tVar 1) (tCons (tCutE (tIf (tTest (tOp rGt (tCallO sp__law_take_ (tCons (tVar 0) (tCons (tVar 1) (tCons (tC (.int 12)) tNil)))) (tC (.int 0)))) (tC (.int 5)) (tC (.int 16)))) tNil))))) tNil)) (gName 3) (tSeq (tAsg (tCallO sp__law_figure_ (tCons (tVar 0) (tCons (tVar 1) tNil))) (gName 4))
    (tDrop (tBM K "list" rAppend (tVar 2) (tCons (tTup (tCons (tVar 4) (tCons (tCutE (tIf (tTest (tOp (rEqX K) (tCallO sp__law_take_ (tCons (tVar 0) (tCons (tVar 1) (tCons (tC (.int 3)) tNil)))) (tC (.int 0)))) (tVar 4) (tCallO sp__law_figure_ (tCons (tVar 0) (tCons (tVar 1) tNil))))) tNil))) tNil)))))
    (tRet (tCB (rTupOf K) (tCons (tVar 2) tNil)))))
theorem d__law_any_box {sp__law_figure_ : Sp} {sp__law_take_ : Sp} {E : XK} {f : Addr} {A : Around} {outer : List Env} {s : Shared} {H : Hp} {cdv : Value} (hr : Room 4 (A.deeper (PyProof.Rows.envOfC "_law_any_box" (defScope s__law_any_box) s.heap.objs.size f cdv))) (T : Txt K mg w D_READERS D_WORDS V_read_box V_read_condition V_read_conditional V_read_drop V_read_during V_read_first V_read_list V_read_nearest V_read_nothing V_read_number V_read_pair V_read_put V_read_skyline V_read_turn C_Reader tk_ALL tk_MOST_DIGITS) (O__law_figure : Ok P w K mg base 4 "_law_figure" ["row", "spot"] (sp__law_figure_)) (O__law_take : Ok P w K mg base 2 "_law_take" ["row", "spot", "limit"] (sp__law_take_)) :
    PSs (cxOf CX0 P w K mg base N__law_any_box "_law_any_box" (defScope s__law_any_box) f cdv A outer s H E).nox (defBody s__law_any_box) (t__law_any_box K sp__law_figure_ sp__law_take_) :=
  (pss_cons (ps_set (i := 2) sc__law_any_box.nd rfl (Or.inl rfl) (pe_lst pa_nil))
    (pss_cons (ps_for PassesOwn.never rfl (pi_range1 (by rfl) T.b_range (pa_cons (pe_op op_addX pe_int (pe_cO O__law_take (hr.mono (by decide)) rfl (pa_cons (pv 0) (pa_cons (pv 1) (pa_cons (pe_cutE (pe_ifExp (pt_cmpR o_gt (pe_cO O__law_take (hr.mono (by decide)) rfl (pa_cons (pv 0) (pa_cons (pv 1) (pa_cons pe_int pa_nil)))) pe_int (nomark _)) pe_int pe_int)) pa_nil))))) pa_nil)) (pg_name (i := 3) sc__law_any_box.nd rfl (Or.inl rfl)) (pss_cons (ps_set (i := 4) sc__law_any_box.nd rfl (Or.inl rfl) (pe_cO O__law_figure (hr.mono (by decide)) rfl (pa_cons (pv 0) (pa_cons (pv 1) pa_nil))))
    (pss_one (ps_expr (pe_bm PySem.F.plainAttrs_list PySem.F.slot_list_append PySem.F.type_list_append mt_append (pv 2) (pa_cons (pe_tup (pa_cons (pv 4) (pa_cons (pe_cutE (pe_ifExp (pt_cmpR (op_eqX hr.units) (pe_cO O__law_take (hr.mono (by decide)) rfl (pa_cons (pv 0) (pa_cons (pv 1) (pa_cons pe_int pa_nil)))) pe_int (nomark _)) (pv 4) (pe_cO O__law_figure (hr.mono (by decide)) rfl (pa_cons (pv 0) (pa_cons (pv 1) pa_nil))))) pa_nil))) pa_nil))))))
    (pss_one (ps_ret (pe_callTy c_tuple (by rfl) T.b_tuple (by decide +kernel) (pa_cons (pv 2) pa_nil))))))

def t__law_any_list (K : PySem.W.Frag) (sp__law_figure_ : Sp) (sp__law_take_ : Sp) : TS := (tRet (tCB (rTupOf K) (tCons (tLc (iRng1 (tCons (tVar 2) tNil)) (gName 3) tYes (tCutE (tIf (tTest (tOp rGt (tCallO sp__law_take_ (tCons (tVar 0) (tCons (tVar 1) (tCons (tC (.int 3)) tNil)))) (tC (.int 0)))) (tCallO sp__law_figure_ (tCons (tVar 0) (tCons (tVar 1) tNil))) (tC (.int 0)))) [3]) tNil)))
theorem d__law_any_list {sp__law_figure_ : Sp} {sp__law_take_ : Sp} {E : XK} {f : Addr} {A : Around} {outer : List Env} {s : Shared} {H : Hp} {cdv : Value} (hr : Room 4 (A.deeper (PyProof.Rows.envOfC "_law_any_list" (defScope s__law_any_list) s.heap.objs.size f cdv))) (T : Txt K mg w D_READERS D_WORDS V_read_box V_read_condition V_read_conditional V_read_drop V_read_during V_read_first V_read_list V_read_nearest V_read_nothing V_read_number V_read_pair V_read_put V_read_skyline V_read_turn C_Reader tk_ALL tk_MOST_DIGITS) (O__law_figure : Ok P w K mg base 4 "_law_figure" ["row", "spot"] (sp__law_figure_)) (O__law_take : Ok P w K mg base 2 "_law_take" ["row", "spot", "limit"] (sp__law_take_)) :
    PSs (cxOf CX0 P w K mg base N__law_any_list "_law_any_list" (defScope s__law_any_list) f cdv A outer s H E).nox (defBody s__law_any_list) (t__law_any_list K sp__law_figure_ sp__law_take_) :=
  (pss_one (ps_ret (pe_callTy c_tuple (by rfl) T.b_tuple (by decide +kernel) (pa_cons (pe_lc (own := [("k", 3)]) (g := (gName 3)) (tt := tYes) (te := (tCutE (tIf (tTest (tOp rGt (tCallO sp__law_take_ (tCons (tVar 0) (tCons (tVar 1) (tCons (tC (.int 3)) tNil)))) (tC (.int 0)))) (tCallO sp__law_figure_ (tCons (tVar 0) (tCons (tVar 1) tNil))) (tC (.int 0))))) rfl sc__law_any_list.nd (pi_range1 (by rfl) T.b_range (pa_cons (pv 2) pa_nil)) (blkOk_by (N := N__law_any_list) (sc := defScope s__law_any_list) (own := [("k", 3)]) (by decide +kernel)) (fun _ _ _ _ _ => (pg_name (i := 3) sc__law_any_list.nd rfl (Or.inl rfl))) (fun _ _ _ _ _ => pts_nil) (fun _ _ _ _ _ => (pe_cutE (pe_ifExp (pt_cmpR o_gt (pe_cO O__law_take (hr.mono (by decide)) rfl (pa_cons (pv 0) (pa_cons (pv 1) (pa_cons pe_int pa_nil)))) pe_int (nomark _)) (pe_cO O__law_figure (hr.mono (by decide)) rfl (pa_cons (pv 0) (pa_cons (pv 1) pa_nil))) pe_int)))) pa_nil))))

def t__law_statement (K : PySem.W.Frag) (sp__law_any_box_ : Sp) (sp__law_any_list_ : Sp) (sp__law_figure_ : Sp) (sp__law_take_ : Sp) : TS := (tSeq (tAsg (tCallO sp__law_take_ (tCons (tVar 0) (tCons (tVar 1) (tCons (tC (.int 11)) tNil)))) (gName 2))
    (tSeq (tAsg (tCallO sp__law_any_box_ (tCons (tVar 0) (tCons (tVar 1) tNil))) (gName 3))
    (tSeq (tAsg (tCallO sp__law_figure_ (tCons (tVar 0) (tCons (tVar 1) tNil))) (gName 4))
    (tSeq (tAsg (tCallO sp__law_figure_ (tCons (tVar 0) (tCons (tVar 1) tNil))) (gName 5))
    (tSeq (tAsg (tCallO sp__law_any_list_ (tCons (tVar 0) (tCons (tVar 1) (tCons (tCutE (tIf (tTest (tOp rGt (tCallO sp__law_take_ (tCons (tVar 0) (tCons (tVar 1) (tCons (tC (.int 3)) tNil)))) (tC (.int 0)))) (tCB (rLen K) (tCons (tVar 3) tNil)) (tOp (rAddX K) (tC (.int 1)) (tCallO sp__law_take_ (tCons (tVar 0) (tCons (tVar 1) (tCons (tC (.int 4)) tNil))))))) tNil)))) (gName 6))
    (tCut (tIfS (tTest (tOp (rEqX K) (tCallO sp__law_take_ (tCons (tVar 0) (tCons (tVar 1) (tCons (tC (.int 3)) tNil)))) (tC (.int 0)))) (tAsg (tCB (rTupOf K) (tCons (tLc (iX K (tVar 6)) (gName 8) tYes (tC (.int 0)) [8]) tNil)) (gName 6)) tNext)
    (tSeq (tAsg (tLst tNil) (gName 7))
    (tSeq (tFor (iRng1 (tCons (tCallO sp__law_take_ (tCons (tVar 0) (tCons (tVar 1) (tCons (tCutE (tIf (tTest (tOp rGt (tCallO sp__law_take_ (tCons (tVar 0) (tCons (tVar 1) (tCons (tC (.int 12)) tNil)))) (tC (.int 0)))) (tC (.int 4)) (tC (.int 16)))) tNil)))) tNil)) (gName 8) (tDrop (tBM K "list" rAppend (tVar 7) (tCons (tTup (tCons (tOp (rIxX K) (tLst (tCons (tC (.str "meets")) (tCons (tC (.str "inside")) (tCons (tC (.str "covers")) tNil)))) (tCallO sp__law_take_ (tCons (tVar 0) (tCons (tVar 1) (tCons (tC (.int 3)) tNil))))) (tCons (tCallO sp__law_any_box_ (tCons (tVar 0) (tCons (tVar 1) tNil))) tNil))) tNil))))
    (tSeq (tAsg (tLst (tCons (tTup (tCons (tC (.str "put")) (tCons (tVar 4) (tCons (tVar 3) (tCons (tCutE (tIf (tTest (tOp (rEqX K) (tCallO sp__law_take_ (tCons (tVar 0) (tCons (tVar 1) (tCons (tC (.int 2)) tNil)))) (tC (.int 0)))) (tC .non) (tVar 6))) tNil))))) (tCons (tTup (tCons (tC (.str "drop")) (tCons (tVar 4) tNil))) (tCons (tTup (tCons (tC (.str "turn")) (tCons (tVar 4) (tCons (tVar 5) (tCons (tVar 6) tNil))))) tNil)))) (gName 9))
    (tSeq (tAsg (tOp (rAddX K) (tVar 9) (tLst (tCons (tTup (tCons (tC (.str "select")) (tCons (tCB (rTupOf K) (tCons (tVar 7) tNil)) (tCons (tVar 4) tNil)))) (tCons (tTup (tCons (tC (.str "count")) (tCons (tCB (rTupOf K) (tCons (tVar 7) tNil)) (tCons (tVar 4) tNil)))) (tCons (tTup (tCons (tC (.str "nearest")) (tCons (tVar 4) (tCons (tVar 3) (tCons (tVar 5) tNil))))) (tCons (tTup (tCons (tC (.str "skyline")) (tCons (tVar 4) tNil))) tNil)))))) (gName 9))
    (tSeq (tAsg (tOp (rAddX K) (tVar 9) (tLst (tCons (tTup (tCons (tC (.str "during")) (tCons (tVar 3) (tCons (tVar 4) (tCons (tVar 5) tNil))))) (tCons (tTup (tCons (tC (.str "first")) (tCons (tVar 3) (tCons (tVar 6) (tCons (tVar 4) (tCons (tVar 5) tNil)))))) (tCons (tTup (tCons (tC (.str "commit")) tNil)) (tCons (tTup (tCons (tC (.str "rollback")) tNil)) tNil)))))) (gName 9))
    (tRet (tOp (rIxX K) (tVar 9) (tVar 2))))))))))))))
theorem d__law_statement {sp__law_any_box_ : Sp} {sp__law_any_list_ : Sp} {sp__law_figure_ : Sp} {sp__law_take_ : Sp} {E : XK} {f : Addr} {A : Around} {outer : List Env} {s : Shared} {H : Hp} {cdv : Value} (hr : Room 5 (A.deeper (PyProof.Rows.envOfC "_law_statement" (defScope s__law_statement) s.heap.objs.size f cdv))) (T : Txt K mg w D_READERS D_WORDS V_read_box V_read_condition V_read_conditional V_read_drop V_read_during V_read_first V_read_list V_read_nearest V_read_nothing V_read_number V_read_pair V_read_put V_read_skyline V_read_turn C_Reader tk_ALL tk_MOST_DIGITS) (O__law_any_box : Ok P w K mg base 5 "_law_any_box" ["row", "spot"] (sp__law_any_box_)) (O__law_any_list : Ok P w K mg base 5 "_law_any_list" ["row", "spot", "many"] (sp__law_any_list_)) (O__law_figure : Ok P w K mg base 4 "_law_figure" ["row", "spot"] (sp__law_figure_)) (O__law_take : Ok P w K mg base 2 "_law_take" ["row", "spot", "limit"] (sp__law_take_)) :
    PSs (cxOf CX0 P w K mg base N__law_statement "_law_statement" (defScope s__law_statement) f cdv A outer s H E).nox (defBody s__law_statement) (t__law_statement K sp__law_any_box_ sp__law_any_list_ sp__law_figure_ sp__law_take_) :=
  (pss_cons (ps_set (i := 2) sc__law_statement.nd rfl (Or.inl rfl) (pe_cO O__law_take (hr.mono (by decide)) rfl (pa_cons (pv 0) (pa_cons (pv 1) (pa_cons pe_int pa_nil)))))
    (pss_cons (ps_set (i := 3) sc__law_statement.nd rfl (Or.inl rfl) (pe_cO O__law_any_box (hr.mono (by decide)) rfl (pa_cons (pv 0) (pa_cons (pv 1) pa_nil))))
    (pss_cons (ps_set (i := 4) sc__law_statement.nd rfl (Or.inl rfl) (pe_cO O__law_figure (hr.mono (by decide)) rfl (pa_cons (pv 0) (pa_cons (pv 1) pa_nil))))
    (pss_cons (ps_set (i := 5) sc__law_statement.nd rfl (Or.inl rfl) (pe_cO O__law_figure (hr.mono (by decide)) rfl (pa_cons (pv 0) (pa_cons (pv 1) pa_nil))))
    (pss_cons (ps_set (i := 6) sc__law_statement.nd rfl (Or.inl rfl) (pe_cO O__law_any_list (hr.mono (by decide)) rfl (pa_cons (pv 0) (pa_cons (pv 1) (pa_cons (pe_cutE (pe_ifExp (pt_cmpR o_gt (pe_cO O__law_take (hr.mono (by decide)) rfl (pa_cons (pv 0) (pa_cons (pv 1) (pa_cons pe_int pa_nil)))) pe_int (nomark _)) (pe_callB c_len (by rfl) T.b_len (by decide +kernel) (pa_cons (pv 3) pa_nil)) (pe_op op_addX pe_int (pe_cO O__law_take (hr.mono (by decide)) rfl (pa_cons (pv 0) (pa_cons (pv 1) (pa_cons pe_int pa_nil))))))) pa_nil)))))
    (pss_cut (ps_if (pt_cmpR (op_eqX hr.units) (pe_cO O__law_take (hr.mono (by decide)) rfl (pa_cons (pv 0) (pa_cons (pv 1) (pa_cons pe_int pa_nil)))) pe_int (nomark _)) (pss_one (ps_set (i := 6) sc__law_statement.nd rfl (Or.inl rfl) (pe_callTy c_tuple (by rfl) T.b_tuple (by decide +kernel) (pa_cons (pe_lc (own := [("k", 8)]) (g := (gName 8)) (tt := tYes) (te := (tC (.int 0))) rfl sc__law_statement.nd (pi_X (pv 6)) (blkOk_by (N := N__law_statement) (sc := defScope s__law_statement) (own := [("k", 8)]) (by decide +kernel)) (fun _ _ _ _ _ => (pg_name (i := 8) sc__law_statement.nd rfl (Or.inl rfl))) (fun _ _ _ _ _ => pts_nil) (fun _ _ _ _ _ => pe_int)) pa_nil)))) pss_nil)
    (pss_cons (ps_set (i := 7) sc__law_statement.nd rfl (Or.inl rfl) (pe_lst pa_nil))
    (pss_cons (ps_for PassesOwn.never rfl (pi_range1 (by rfl) T.b_range (pa_cons (pe_cO O__law_take (hr.mono (by decide)) rfl (pa_cons (pv 0) (pa_cons (pv 1) (pa_cons (pe_cutE (pe_ifExp (pt_cmpR o_gt (pe_cO O__law_take (hr.mono (by decide)) rfl (pa_cons (pv 0) (pa_cons (pv 1) (pa_cons pe_int pa_nil)))) pe_int (nomark _)) pe_int pe_int)) pa_nil)))) pa_nil)) (pg_name (i := 8) sc__law_statement.nd rfl (Or.inl rfl)) (pss_one (ps_expr (pe_bm PySem.F.plainAttrs_list PySem.F.slot_list_append PySem.F.type_list_append mt_append (pv 7) (pa_cons (pe_tup (pa_cons (pe_ix ix_X (pe_lst (pa_cons pe_str (pa_cons pe_str (pa_cons pe_str pa_nil)))) (pe_cO O__law_take (hr.mono (by decide)) rfl (pa_cons (pv 0) (pa_cons (pv 1) (pa_cons pe_int pa_nil)))) (fun _ _ => rfl)) (pa_cons (pe_cO O__law_any_box (hr.mono (by decide)) rfl (pa_cons (pv 0) (pa_cons (pv 1) pa_nil))) pa_nil))) pa_nil)))))
    (pss_cons (ps_set (i := 9) sc__law_statement.nd rfl (Or.inl rfl) (pe_lst (pa_cons (pe_tup (pa_cons pe_str (pa_cons (pv 4) (pa_cons (pv 3) (pa_cons (pe_cutE (pe_ifExp (pt_cmpR (op_eqX hr.units) (pe_cO O__law_take (hr.mono (by decide)) rfl (pa_cons (pv 0) (pa_cons (pv 1) (pa_cons pe_int pa_nil)))) pe_int (nomark _)) pe_non (pv 6))) pa_nil))))) (pa_cons (pe_tup (pa_cons pe_str (pa_cons (pv 4) pa_nil))) (pa_cons (pe_tup (pa_cons pe_str (pa_cons (pv 4) (pa_cons (pv 5) (pa_cons (pv 6) pa_nil))))) pa_nil)))))
    (pss_cons (ps_set (i := 9) sc__law_statement.nd rfl (Or.inl rfl) (pe_op op_addX (pv 9) (pe_lst (pa_cons (pe_tup (pa_cons pe_str (pa_cons (pe_callTy c_tuple (by rfl) T.b_tuple (by decide +kernel) (pa_cons (pv 7) pa_nil)) (pa_cons (pv 4) pa_nil)))) (pa_cons (pe_tup (pa_cons pe_str (pa_cons (pe_callTy c_tuple (by rfl) T.b_tuple (by decide +kernel) (pa_cons (pv 7) pa_nil)) (pa_cons (pv 4) pa_nil)))) (pa_cons (pe_tup (pa_cons pe_str (pa_cons (pv 4) (pa_cons (pv 3) (pa_cons (pv 5) pa_nil))))) (pa_cons (pe_tup (pa_cons pe_str (pa_cons (pv 4) pa_nil))) pa_nil)))))))
    (pss_cons (ps_set (i := 9) sc__law_statement.nd rfl (Or.inl rfl) (pe_op op_addX (pv 9) (pe_lst (pa_cons (pe_tup (pa_cons pe_str (pa_cons (pv 3) (pa_cons (pv 4) (pa_cons (pv 5) pa_nil))))) (pa_cons (pe_tup (pa_cons pe_str (pa_cons (pv 3) (pa_cons (pv 6) (pa_cons (pv 4) (pa_cons (pv 5) pa_nil)))))) (pa_cons (pe_tup (pa_cons pe_str pa_nil)) (pa_cons (pe_tup (pa_cons pe_str pa_nil)) pa_nil)))))))
    (pss_one (ps_ret (pe_ix ix_X (pv 9) (pv 2) (fun _ _ => rfl)))))))))))))))

def t__law_box_text (K : PySem.W.Frag) : TS := (tSeq (tAsg (tLst tNil) (gName 1))
    (tSeq (tFor (iX K (tVar 0)) (gName 2) (tDrop (tBM K "list" rAppend (tVar 1) (tCons (tIf (tTest (tOp (rEqX K) (tOp (rIxX K) (tVar 2) (tC (.int 0))) (tOp (rIxX K) (tVar 2) (tC (.int 1))))) (tCB rStrI (tCons (tOp (rIxX K) (tVar 2) (tC (.int 0))) tNil)) (tOp rAddStr (tOp rAddStr (tCB rStrI (tCons (tOp (rIxX K) (tVar 2) (tC (.int 0))) tNil)) (tC (.str ".."))) (tCB rStrI (tCons (tOp (rIxX K) (tVar 2) (tC (.int 1))) tNil)))) tNil))))
    (tRet (tOp rAddStr (tOp rAddStr (tC (.str "[")) (tM1 (rJoin K) (tC (.str ", ")) (tVar 1))) (tC (.str "]"))))))
theorem d__law_box_text {E : XK} {f : Addr} {A : Around} {outer : List Env} {s : Shared} {H : Hp} {cdv : Value} (hr : Room 0 (A.deeper (PyProof.Rows.envOfC "_law_box_text" (defScope s__law_box_text) s.heap.objs.size f cdv))) (T : Txt K mg w D_READERS D_WORDS V_read_box V_read_condition V_read_conditional V_read_drop V_read_during V_read_first V_read_list V_read_nearest V_read_nothing V_read_number V_read_pair V_read_put V_read_skyline V_read_turn C_Reader tk_ALL tk_MOST_DIGITS)  :
    PSs (cxOf CX0 P w K mg base N__law_box_text "_law_box_text" (defScope s__law_box_text) f cdv A outer s H E).nox (defBody s__law_box_text) (t__law_box_text K) :=
  (pss_cons (ps_set (i := 1) sc__law_box_text.nd rfl (Or.inl rfl) (pe_lst pa_nil))
    (pss_cons (ps_for PassesOwn.never rfl (pi_X (pv 0)) (pg_name (i := 2) sc__law_box_text.nd rfl (Or.inl rfl)) (pss_one (ps_expr (pe_bm PySem.F.plainAttrs_list PySem.F.slot_list_append PySem.F.type_list_append mt_append (pv 1) (pa_cons (pe_ifExp (pt_cmpR (op_eqX hr.units) (pe_ix ix_X (pv 2) pe_int (fun _ _ => rfl)) (pe_ix ix_X (pv 2) pe_int (fun _ _ => rfl)) (nomark _)) (pe_callTy c_strI (by rfl) T.b_str (by decide +kernel) (pa_cons (pe_ix ix_X (pv 2) pe_int (fun _ _ => rfl)) pa_nil)) (pe_op op_addStr (pe_op op_addStr (pe_callTy c_strI (by rfl) T.b_str (by decide +kernel) (pa_cons (pe_ix ix_X (pv 2) pe_int (fun _ _ => rfl)) pa_nil)) pe_str) (pe_callTy c_strI (by rfl) T.b_str (by decide +kernel) (pa_cons (pe_ix ix_X (pv 2) pe_int (fun _ _ => rfl)) pa_nil)))) pa_nil)))))
    (pss_one (ps_ret (pe_op op_addStr (pe_op op_addStr pe_str (pe_joinM pe_str (pv 1))) pe_str)))))

def t__law_list_text (K : PySem.W.Frag) : TS := (tRet (tOp rAddStr (tOp rAddStr (tC (.str "[")) (tM1 (rJoin K) (tC (.str ", ")) (tLc (iX K (tVar 0)) (gName 1) tYes (tCB rStrI (tCons (tVar 1) tNil)) [1]))) (tC (.str "]"))))
theorem d__law_list_text {E : XK} {f : Addr} {A : Around} {outer : List Env} {s : Shared} {H : Hp} {cdv : Value} (hr : Room 0 (A.deeper (PyProof.Rows.envOfC "_law_list_text" (defScope s__law_list_text) s.heap.objs.size f cdv))) (T : Txt K mg w D_READERS D_WORDS V_read_box V_read_condition V_read_conditional V_read_drop V_read_during V_read_first V_read_list V_read_nearest V_read_nothing V_read_number V_read_pair V_read_put V_read_skyline V_read_turn C_Reader tk_ALL tk_MOST_DIGITS)  :
    PSs (cxOf CX0 P w K mg base N__law_list_text "_law_list_text" (defScope s__law_list_text) f cdv A outer s H E).nox (defBody s__law_list_text) (t__law_list_text K) :=
  (pss_one (ps_ret (pe_op op_addStr (pe_op op_addStr pe_str (pe_joinM pe_str (pe_lc (own := [("one", 1)]) (g := (gName 1)) (tt := tYes) (te := (tCB rStrI (tCons (tVar 1) tNil))) rfl sc__law_list_text.nd (pi_X (pv 0)) (blkOk_by (N := N__law_list_text) (sc := defScope s__law_list_text) (own := [("one", 1)]) (by decide +kernel)) (fun _ _ _ _ _ => (pg_name (i := 1) sc__law_list_text.nd rfl (Or.inl rfl))) (fun _ _ _ _ _ => pts_nil) (fun _ _ _ _ _ => (pe_callTy c_strI (by rfl) T.b_str (by decide +kernel) (pa_cons (pv 1) pa_nil)))))) pe_str)))

def t__law_wants_text (K : PySem.W.Frag) (sp__law_box_text_ : Sp) : TS := (tSeq (tIfS (tTest (tOp (rEqX K) (tCB (rLen K) (tCons (tVar 0) tNil)) (tC (.int 0)))) (tRet (tC (.str "all"))) tNext)
    (tRet (tM1 (rJoin K) (tC (.str " and ")) (tLc (iX K (tVar 0)) (gName 1) tYes (tOp rAddStr (tOp rAddStr (tOp (rIxX K) (tVar 1) (tC (.int 0))) (tC (.str " "))) (tCallO sp__law_box_text_ (tCons (tOp (rIxX K) (tVar 1) (tC (.int 1))) tNil))) [1]))))
theorem d__law_wants_text {sp__law_box_text_ : Sp} {E : XK} {f : Addr} {A : Around} {outer : List Env} {s : Shared} {H : Hp} {cdv : Value} (hr : Room 1 (A.deeper (PyProof.Rows.envOfC "_law_wants_text" (defScope s__law_wants_text) s.heap.objs.size f cdv))) (T : Txt K mg w D_READERS D_WORDS V_read_box V_read_condition V_read_conditional V_read_drop V_read_during V_read_first V_read_list V_read_nearest V_read_nothing V_read_number V_read_pair V_read_put V_read_skyline V_read_turn C_Reader tk_ALL tk_MOST_DIGITS) (O__law_box_text : Ok P w K mg base 1 "_law_box_text" ["box"] (sp__law_box_text_)) :
    PSs (cxOf CX0 P w K mg base N__law_wants_text "_law_wants_text" (defScope s__law_wants_text) f cdv A outer s H E).nox (defBody s__law_wants_text) (t__law_wants_text K sp__law_box_text_) :=
  (pss_cons (ps_if (pt_cmpR (op_eqX hr.units) (pe_callB c_len (by rfl) T.b_len (by decide +kernel) (pa_cons (pv 0) pa_nil)) pe_int (nomark _)) (pss_one (ps_ret pe_str)) pss_nil)
    (pss_one (ps_ret (pe_joinM pe_str (pe_lc (own := [("want", 1)]) (g := (gName 1)) (tt := tYes) (te := (tOp rAddStr (tOp rAddStr (tOp (rIxX K) (tVar 1) (tC (.int 0))) (tC (.str " "))) (tCallO sp__law_box_text_ (tCons (tOp (rIxX K) (tVar 1) (tC (.int 1))) tNil)))) rfl sc__law_wants_text.nd (pi_X (pv 0)) (blkOk_by (N := N__law_wants_text) (sc := defScope s__law_wants_text) (own := [("want", 1)]) (by decide +kernel)) (fun _ _ _ _ _ => (pg_name (i := 1) sc__law_wants_text.nd rfl (Or.inl rfl))) (fun _ _ _ _ _ => pts_nil) (fun _ _ _ _ _ => (pe_op op_addStr (pe_op op_addStr (pe_ix ix_X (pv 1) pe_int (fun _ _ => rfl)) pe_str) (pe_cO O__law_box_text (hr.mono (by decide)) rfl (pa_cons (pe_ix ix_X (pv 1) pe_int (fun _ _ => rfl)) pa_nil)))))))))

def t__law_print (K : PySem.W.Frag) (sp__law_box_text_ : Sp) (sp__law_list_text_ : Sp) (sp__law_wants_text_ : Sp) : TS := (tSeq (tAsg (tOp (rIxX K) (tVar 0) (tC (.int 0))) (gName 1))
    (tSeq (tIfS (tTest (tOp (rEqX K) (tVar 1) (tC (.str "put")))) (tRet (tOp rAddStr (tOp rAddStr (tOp rAddStr (tOp rAddStr (tC (.str "put ")) (tCB rStrI (tCons (tOp (rIxX K) (tVar 0) (tC (.int 1))) tNil))) (tC (.str " "))) (tCallO sp__law_box_text_ (tCons (tOp (rIxX K) (tVar 0) (tC (.int 2))) tNil))) (tCutE (tIf (tTest (tOp rIsNon (tOp (rIxX K) (tVar 0) (tC (.int 3))) (tC .non))) (tC (.str "")) (tOp rAddStr (tC (.str " speed ")) (tCallO sp__law_list_text_ (tCons (tOp (rIxX K) (tVar 0) (tC (.int 3))) tNil))))))) tNext)
    (tSeq (tIfS (tTest (tOp (rEqX K) (tVar 1) (tC (.str "drop")))) (tRet (tOp rAddStr (tC (.str "drop ")) (tCB rStrI (tCons (tOp (rIxX K) (tVar 0) (tC (.int 1))) tNil)))) tNext)
    (tSeq (tIfS (tTest (tOp (rEqX K) (tVar 1) (tC (.str "turn")))) (tRet (tOp rAddStr (tOp rAddStr (tOp rAddStr (tOp rAddStr (tOp rAddStr (tC (.str "turn ")) (tCB rStrI (tCons (tOp (rIxX K) (tVar 0) (tC (.int 1))) tNil))) (tC (.str " at "))) (tCB rStrI (tCons (tOp (rIxX K) (tVar 0) (tC (.int 2))) tNil))) (tC (.str " speed "))) (tCallO sp__law_list_text_ (tCons (tOp (rIxX K) (tVar 0) (tC (.int 3))) tNil)))) tNext)
    (tSeq (tIfS (tOr (tTest (tOp (rEqX K) (tVar 1) (tC (.str "select")))) (tTest (tOp (rEqX K) (tVar 1) (tC (.str "count"))))) (tRet (tOp rAddStr (tOp rAddStr (tOp rAddStr (tOp rAddStr (tVar 1) (tC (.str " "))) (tCallO sp__law_wants_text_ (tCons (tOp (rIxX K) (tVar 0) (tC (.int 1))) tNil))) (tC (.str " at "))) (tCB rStrI (tCons (tOp (rIxX K) (tVar 0) (tC (.int 2))) tNil)))) tNext)
    (tSeq (tIfS (tTest (tOp (rEqX K) (tVar 1) (tC (.str "nearest")))) (tRet (tOp rAddStr (tOp rAddStr (tOp rAddStr (tOp rAddStr (tOp rAddStr (tC (.str "nearest ")) (tCB rStrI (tCons (tOp (rIxX K) (tVar 0) (tC (.int 1))) tNil))) (tC (.str " to "))) (tCallO sp__law_box_text_ (tCons (tOp (rIxX K) (tVar 0) (tC (.int 2))) tNil))) (tC (.str " at "))) (tCB rStrI (tCons (tOp (rIxX K) (tVar 0) (tC (.int 3))) tNil)))) tNext)
    (tSeq (tIfS (tTest (tOp (rEqX K) (tVar 1) (tC (.str "skyline")))) (tRet (tOp rAddStr (tC (.str "skyline at ")) (tCB rStrI (tCons (tOp (rIxX K) (tVar 0) (tC (.int 1))) tNil)))) tNext)
    (tSeq (tIfS (tTest (tOp (rEqX K) (tVar 1) (tC (.str "during")))) (tRet (tOp rAddStr (tOp rAddStr (tOp rAddStr (tOp rAddStr (tOp rAddStr (tC (.str "during ")) (tCallO sp__law_box_text_ (tCons (tOp (rIxX K) (tVar 0) (tC (.int 1))) tNil))) (tC (.str " from "))) (tCB rStrI (tCons (tOp (rIxX K) (tVar 0) (tC (.int 2))) tNil))) (tC (.str " to "))) (tCB rStrI (tCons (tOp (rIxX K) (tVar 0) (tC (.int 3))) tNil)))) tNext)
    (tSeq (tIfS (tTest (tOp (rEqX K) (tVar 1) (tC (.str "first")))) (tSeq (tAsg (tCutE (tAndV (tOp (rEqX K) (tCB (rLen K) (tCons (tOp (rIxX K) (tVar 0) (tC (.int 2))) tNil)) (tCB (rLen K) (tCons (tOp (rIxX K) (tVar 0) (tC (.int 1))) tNil))) (tOp (rEqX K) (tCB (rLen K) (tCons (tLc (iX K (tOp (rIxX K) (tVar 0) (tC (.int 2)))) (gName 4) (tTest (tOp (rNeX K) (tVar 4) (tC (.int 0)))) (tVar 4) [4]) tNil)) (tC (.int 0))))) (gName 2))
    (tCut (tAsg (tIf (tB (tVar 2)) (tC (.str "")) (tOp rAddStr (tC (.str " speed ")) (tCallO sp__law_list_text_ (tCons (tOp (rIxX K) (tVar 0) (tC (.int 2))) tNil)))) (gName 3))
    (tRet (tOp rAddStr (tOp rAddStr (tOp rAddStr (tOp rAddStr (tOp rAddStr (tOp rAddStr (tC (.str "first ")) (tCallO sp__law_box_text_ (tCons (tOp (rIxX K) (tVar 0) (tC (.int 1))) tNil))) (tVar 3)) (tC (.str " from "))) (tCB rStrI (tCons (tOp (rIxX K) (tVar 0) (tC (.int 3))) tNil))) (tC (.str " to "))) (tCB rStrI (tCons (tOp (rIxX K) (tVar 0) (tC (.int 4))) tNil)))))) tNext)
    (tRet (tVar 1)))))))))))
theorem d__law_print {sp__law_box_text_ : Sp} {sp__law_list_text_ : Sp} {sp__law_wants_text_ : Sp} {E : XK} {f : Addr} {A : Around} {outer : List Env} {s : Shared} {H : Hp} {cdv : Value} (hr : Room 2 (A.deeper (PyProof.Rows.envOfC "_law_print" (defScope s__law_print) s.heap.objs.size f cdv))) (T : Txt K mg w D_READERS D_WORDS V_read_box V_read_condition V_read_conditional V_read_drop V_read_during V_read_first V_read_list V_read_nearest V_read_nothing V_read_number V_read_pair V_read_put V_read_skyline V_read_turn C_Reader tk_ALL tk_MOST_DIGITS) (O__law_box_text : Ok P w K mg base 1 "_law_box_text" ["box"] (sp__law_box_text_)) (O__law_list_text : Ok P w K mg base 1 "_law_list_text" ["numbers"] (sp__law_list_text_)) (O__law_wants_text : Ok P w K mg base 2 "_law_wants_text" ["wants"] (sp__law_wants_text_)) :
    PSs (cxOf CX0 P w K mg base N__law_print "_law_print" (defScope s__law_print) f cdv A outer s H E).nox (defBody s__law_print) (t__law_print K sp__law_box_text_ sp__law_list_text_ sp__law_wants_text_) :=
  (pss_cons (ps_set (i := 1) sc__law_print.nd rfl (Or.inl rfl) (pe_ix ix_X (pv 0) pe_int (fun _ _ => rfl)))
    (pss_cons (ps_if (pt_cmpR (op_eqX hr.units) (pv 1) pe_str (nomark _)) (pss_one (ps_ret (pe_op op_addStr (pe_op op_addStr (pe_op op_addStr (pe_op op_addStr pe_str (pe_callTy c_strI (by rfl) T.b_str (by decide +kernel) (pa_cons (pe_ix ix_X (pv 0) pe_int (fun _ _ => rfl)) pa_nil))) pe_str) (pe_cO O__law_box_text (hr.mono (by decide)) rfl (pa_cons (pe_ix ix_X (pv 0) pe_int (fun _ _ => rfl)) pa_nil))) (pe_cutE (pe_ifExp (pt_cmpR o_isN (pe_ix ix_X (pv 0) pe_int (fun _ _ => rfl)) pe_non (nomark _)) pe_str (pe_op op_addStr pe_str (pe_cO O__law_list_text (hr.mono (by decide)) rfl (pa_cons (pe_ix ix_X (pv 0) pe_int (fun _ _ => rfl)) pa_nil)))))))) pss_nil)
    (pss_cons (ps_if (pt_cmpR (op_eqX hr.units) (pv 1) pe_str (nomark _)) (pss_one (ps_ret (pe_op op_addStr pe_str (pe_callTy c_strI (by rfl) T.b_str (by decide +kernel) (pa_cons (pe_ix ix_X (pv 0) pe_int (fun _ _ => rfl)) pa_nil))))) pss_nil)
    (pss_cons (ps_if (pt_cmpR (op_eqX hr.units) (pv 1) pe_str (nomark _)) (pss_one (ps_ret (pe_op op_addStr (pe_op op_addStr (pe_op op_addStr (pe_op op_addStr (pe_op op_addStr pe_str (pe_callTy c_strI (by rfl) T.b_str (by decide +kernel) (pa_cons (pe_ix ix_X (pv 0) pe_int (fun _ _ => rfl)) pa_nil))) pe_str) (pe_callTy c_strI (by rfl) T.b_str (by decide +kernel) (pa_cons (pe_ix ix_X (pv 0) pe_int (fun _ _ => rfl)) pa_nil))) pe_str) (pe_cO O__law_list_text (hr.mono (by decide)) rfl (pa_cons (pe_ix ix_X (pv 0) pe_int (fun _ _ => rfl)) pa_nil))))) pss_nil)
    (pss_cons (ps_if (PW.pt (pw_or (pt_cmpR (op_eqX hr.units) (pv 1) pe_str (nomark _)) (pw_or1 (pt_cmpR (op_eqX hr.units) (pv 1) pe_str (nomark _))))) (pss_one (ps_ret (pe_op op_addStr (pe_op op_addStr (pe_op op_addStr (pe_op op_addStr (pv 1) pe_str) (pe_cO O__law_wants_text (hr.mono (by decide)) rfl (pa_cons (pe_ix ix_X (pv 0) pe_int (fun _ _ => rfl)) pa_nil))) pe_str) (pe_callTy c_strI (by rfl) T.b_str (by decide +kernel) (pa_cons (pe_ix ix_X (pv 0) pe_int (fun _ _ => rfl)) pa_nil))))) pss_nil)
    (pss_cons (ps_if (pt_cmpR (op_eqX hr.units) (pv 1) pe_str (nomark _)) (pss_one (ps_ret (pe_op op_addStr (pe_op op_addStr (pe_op op_addStr (pe_op op_addStr (pe_op op_addStr pe_str (pe_callTy c_strI (by rfl) T.b_str (by decide +kernel) (pa_cons (pe_ix ix_X (pv 0) pe_int (fun _ _ => rfl)) pa_nil))) pe_str) (pe_cO O__law_box_text (hr.mono (by decide)) rfl (pa_cons (pe_ix ix_X (pv 0) pe_int (fun _ _ => rfl)) pa_nil))) pe_str) (pe_callTy c_strI (by rfl) T.b_str (by decide +kernel) (pa_cons (pe_ix ix_X (pv 0) pe_int (fun _ _ => rfl)) pa_nil))))) pss_nil)
    (pss_cons (ps_if (pt_cmpR (op_eqX hr.units) (pv 1) pe_str (nomark _)) (pss_one (ps_ret (pe_op op_addStr pe_str (pe_callTy c_strI (by rfl) T.b_str (by decide +kernel) (pa_cons (pe_ix ix_X (pv 0) pe_int (fun _ _ => rfl)) pa_nil))))) pss_nil)
    (pss_cons (ps_if (pt_cmpR (op_eqX hr.units) (pv 1) pe_str (nomark _)) (pss_one (ps_ret (pe_op op_addStr (pe_op op_addStr (pe_op op_addStr (pe_op op_addStr (pe_op op_addStr pe_str (pe_cO O__law_box_text (hr.mono (by decide)) rfl (pa_cons (pe_ix ix_X (pv 0) pe_int (fun _ _ => rfl)) pa_nil))) pe_str) (pe_callTy c_strI (by rfl) T.b_str (by decide +kernel) (pa_cons (pe_ix ix_X (pv 0) pe_int (fun _ _ => rfl)) pa_nil))) pe_str) (pe_callTy c_strI (by rfl) T.b_str (by decide +kernel) (pa_cons (pe_ix ix_X (pv 0) pe_int (fun _ _ => rfl)) pa_nil))))) pss_nil)
    (pss_cons (ps_if (pt_cmpR (op_eqX hr.units) (pv 1) pe_str (nomark _)) (pss_cons (ps_set (i := 2) sc__law_print.nd rfl (Or.inl rfl) (pe_cutE (pe_and (pe_cmpR (op_eqX hr.units) (pe_callB c_len (by rfl) T.b_len (by decide +kernel) (pa_cons (pe_ix ix_X (pv 0) pe_int (fun _ _ => rfl)) pa_nil)) (pe_callB c_len (by rfl) T.b_len (by decide +kernel) (pa_cons (pe_ix ix_X (pv 0) pe_int (fun _ _ => rfl)) pa_nil)) (nomark _)) (pe_one (pe_cmpR (op_eqX hr.units) (pe_callB c_len (by rfl) T.b_len (by decide +kernel) (pa_cons (pe_lc (own := [("one", 4)]) (g := (gName 4)) (tt := (tTest (tOp (rNeX K) (tVar 4) (tC (.int 0))))) (te := (tVar 4)) rfl sc__law_print.nd (pi_X (pe_ix ix_X (pv 0) pe_int (fun _ _ => rfl))) (blkOk_by (N := N__law_print) (sc := defScope s__law_print) (own := [("one", 4)]) (by decide +kernel)) (fun _ _ _ _ _ => (pg_name (i := 4) sc__law_print.nd rfl (Or.inl rfl))) (fun _ _ _ _ _ => (pts_one (pt_cmpR (op_neX hr.units) (pv 4) pe_int (nomark _)))) (fun _ _ _ _ _ => (pv 4))) pa_nil)) pe_int (nomark _))))))
    (pss_cut (ps_set (i := 3) sc__law_print.nd rfl (Or.inl rfl) (pe_ifExp (pt_val (pv 2)) pe_str (pe_op op_addStr pe_str (pe_cO O__law_list_text (hr.mono (by decide)) rfl (pa_cons (pe_ix ix_X (pv 0) pe_int (fun _ _ => rfl)) pa_nil)))))
    (pss_one (ps_ret (pe_op op_addStr (pe_op op_addStr (pe_op op_addStr (pe_op op_addStr (pe_op op_addStr (pe_op op_addStr pe_str (pe_cO O__law_box_text (hr.mono (by decide)) rfl (pa_cons (pe_ix ix_X (pv 0) pe_int (fun _ _ => rfl)) pa_nil))) (pv 3)) pe_str) (pe_callTy c_strI (by rfl) T.b_str (by decide +kernel) (pa_cons (pe_ix ix_X (pv 0) pe_int (fun _ _ => rfl)) pa_nil))) pe_str) (pe_callTy c_strI (by rfl) T.b_str (by decide +kernel) (pa_cons (pe_ix ix_X (pv 0) pe_int (fun _ _ => rfl)) pa_nil))))))) pss_nil)
    (pss_one (ps_ret (pv 1))))))))))))

def t__law_run (K : PySem.W.Frag) : TS := (tSeq (tAsg (tVar 1) (gName 3))
    (tCut (tFor (iRng1 (tCons (tCB rLenS (tCons (tVar 0) tNil)) tNil)) (gName 4) (tIfS (tAnd (tTest (tOp rLt (tVar 3) (tCB rLenS (tCons (tVar 0) tNil)))) (tTest (tOp rInS1 (tOp rIxS (tVar 0) (tVar 3)) (tVar 2)))) (tAsg (tOp (rAddX K) (tVar 3) (tC (.int 1))) (gName 3)) tBreak))
    (tRet (tVar 3))))
theorem d__law_run {E : XK} {f : Addr} {A : Around} {outer : List Env} {s : Shared} {H : Hp} {cdv : Value} (hr : Room 0 (A.deeper (PyProof.Rows.envOfC "_law_run" (defScope s__law_run) s.heap.objs.size f cdv))) (T : Txt K mg w D_READERS D_WORDS V_read_box V_read_condition V_read_conditional V_read_drop V_read_during V_read_first V_read_list V_read_nearest V_read_nothing V_read_number V_read_pair V_read_put V_read_skyline V_read_turn C_Reader tk_ALL tk_MOST_DIGITS)  :
    PSs (cxOf CX0 P w K mg base N__law_run "_law_run" (defScope s__law_run) f cdv A outer s H E).nox (defBody s__law_run) (t__law_run K) :=
  (pss_cons (ps_set (i := 3) sc__law_run.nd rfl (Or.inl rfl) (pv 1))
    (pss_cut (ps_for PassesOwn.never rfl (pi_range1 (by rfl) T.b_range (pa_cons (pe_callB c_lenS (by rfl) T.b_len (by decide +kernel) (pa_cons (pv 0) pa_nil)) pa_nil)) (pg_name (i := 4) sc__law_run.nd rfl (Or.inl rfl)) (pss_one (ps_if (PW.pt (pw_and (pt_cmpR o_lt (pv 3) (pe_callB c_lenS (by rfl) T.b_len (by decide +kernel) (pa_cons (pv 0) pa_nil)) (nomark _)) (pw_and1 (pt_cmpR op_inS1 (pe_ix ix_str (pv 0) (pv 3) (fun _ _ => rfl)) (pv 2) (by rfl))))) (pss_one (ps_set (i := 3) sc__law_run.nd rfl (Or.inl rfl) (pe_op op_addX (pv 3) pe_int))) (pss_one ps_break))))
    (pss_one (ps_ret (pv 3)))))

def t__law_tokens (K : PySem.W.Frag) (sp__law_run_ : Sp) : TS := (tSeq (tAsg (tLst tNil) (gName 1))
    (tSeq (tAsg (tC (.int 0)) (gName 2))
    (tCut (tFor (iRng1 (tCons (tOp (rAddX K) (tCB rLenS (tCons (tVar 0) tNil)) (tC (.int 1))) tNil)) (gName 3) (tSeq (tAsg (tCallO sp__law_run_ (tCons (tVar 0) (tCons (tVar 2) (tCons (tC (.str " ")) tNil)))) (gName 2))
    (tSeq (tIfS (tTest (tOp rGe (tVar 2) (tCB rLenS (tCons (tVar 0) tNil)))) tBreak tNext)
    (tSeq (tAsg (tVar 2) (gName 4))
    (tIfS (tTest (tOp rInS1 (tOp rIxS (tVar 0) (tVar 2)) (tC (.str "abcdefghijklmnopqrstuvwxyz")))) (tSeq (tAsg (tCallO sp__law_run_ (tCons (tVar 0) (tCons (tVar 2) (tCons (tC (.str "abcdefghijklmnopqrstuvwxyz")) tNil)))) (gName 2))
    (tDrop (tBM K "list" rAppend (tVar 1) (tCons (tTup (tCons (tC (.str "word")) (tCons (tSl rSlS (tVar 0) (tPart (tVar 4)) (tPart (tVar 2))) (tCons (tVar 4) tNil)))) tNil)))) (tIfS (tTest (tOp rInS1 (tOp rIxS (tVar 0) (tVar 2)) (tC (.str "-0123456789")))) (tSeq (tAsg (tCallO sp__law_run_ (tCons (tVar 0) (tCons (tOp (rAddX K) (tVar 2) (tC (.int 1))) (tCons (tC (.str "0123456789")) tNil)))) (gName 2))
    (tCut (tAsg (tIf (tTest (tOp (rEqX K) (tOp rIxS (tVar 0) (tVar 4)) (tC (.str "-")))) (tSl rSlS (tVar 0) (tPart (tOp (rAddX K) (tVar 4) (tC (.int 1)))) (tPart (tVar 2))) (tSl rSlS (tVar 0) (tPart (tVar 4)) (tPart (tVar 2)))) (gName 5))
    (tSeq (tAsg (tOrV (tOp (rEqX K) (tCB rLenS (tCons (tVar 5) tNil)) (tC (.int 0))) (tOrV (tOp rGt (tCB rLenS (tCons (tVar 5) tNil)) (tC (.int 12))) (tAndV (tOp (rEqX K) (tOp rIxS (tVar 5) (tC (.int 0))) (tC (.str "0"))) (tOrV (tOp rGt (tCB rLenS (tCons (tVar 5) tNil)) (tC (.int 1))) (tOp (rEqX K) (tOp rIxS (tVar 0) (tVar 4)) (tC (.str "-"))))))) (gName 6))
    (tDrop (tBM K "list" rAppend (tVar 1) (tCons (tTup (tCons (tIf (tB (tVar 6)) (tC (.str "bad")) (tC (.str "number"))) (tCons (tSl rSlS (tVar 0) (tPart (tVar 4)) (tPart (tVar 2))) (tCons (tVar 4) tNil)))) tNil)))))) (tIfS (tOr (tTest (tOp (rEqX K) (tSl rSlS (tVar 0) (tPart (tVar 2)) (tPart (tOp (rAddX K) (tVar 2) (tC (.int 2))))) (tC (.str "..")))) (tTest (tOp rInS1 (tOp rIxS (tVar 0) (tVar 2)) (tC (.str "[],"))))) (tSeq (tAsg (tOp (rAddX K) (tVar 2) (tIf (tTest (tOp (rEqX K) (tOp rIxS (tVar 0) (tVar 2)) (tC (.str ".")))) (tC (.int 2)) (tC (.int 1)))) (gName 2))
    (tDrop (tBM K "list" rAppend (tVar 1) (tCons (tTup (tCons (tC (.str "sign")) (tCons (tSl rSlS (tVar 0) (tPart (tVar 4)) (tPart (tVar 2))) (tCons (tVar 4) tNil)))) tNil)))) (tSeq (tDrop (tBM K "list" rAppend (tVar 1) (tCons (tTup (tCons (tC (.str "bad")) (tCons (tOp rIxS (tVar 0) (tVar 2)) (tCons (tVar 4) tNil)))) tNil)))
    tBreak))))))))
    (tSeq (tDrop (tBM K "list" rAppend (tVar 1) (tCons (tTup (tCons (tC (.str "end")) (tCons (tC (.str "")) (tCons (tCB rLenS (tCons (tVar 0) tNil)) tNil)))) tNil)))
    (tRet (tVar 1))))))
theorem d__law_tokens {sp__law_run_ : Sp} {E : XK} {f : Addr} {A : Around} {outer : List Env} {s : Shared} {H : Hp} {cdv : Value} (hr : Room 1 (A.deeper (PyProof.Rows.envOfC "_law_tokens" (defScope s__law_tokens) s.heap.objs.size f cdv))) (T : Txt K mg w D_READERS D_WORDS V_read_box V_read_condition V_read_conditional V_read_drop V_read_during V_read_first V_read_list V_read_nearest V_read_nothing V_read_number V_read_pair V_read_put V_read_skyline V_read_turn C_Reader tk_ALL tk_MOST_DIGITS) (O__law_run : Ok P w K mg base 1 "_law_run" ["text", "at", "letters"] (sp__law_run_)) :
    PSs (cxOf CX0 P w K mg base N__law_tokens "_law_tokens" (defScope s__law_tokens) f cdv A outer s H E).nox (defBody s__law_tokens) (t__law_tokens K sp__law_run_) :=
  (pss_cons (ps_set (i := 1) sc__law_tokens.nd rfl (Or.inl rfl) (pe_lst pa_nil))
    (pss_cons (ps_set (i := 2) sc__law_tokens.nd rfl (Or.inl rfl) pe_int)
    (pss_cut (ps_for PassesOwn.never rfl (pi_range1 (by rfl) T.b_range (pa_cons (pe_op op_addX (pe_callB c_lenS (by rfl) T.b_len (by decide +kernel) (pa_cons (pv 0) pa_nil)) pe_int) pa_nil)) (pg_name (i := 3) sc__law_tokens.nd rfl (Or.inl rfl)) (pss_cons (ps_set (i := 2) sc__law_tokens.nd rfl (Or.inl rfl) (pe_cO O__law_run (hr.mono (by decide)) rfl (pa_cons (pv 0) (pa_cons (pv 2) (pa_cons pe_str pa_nil)))))
    (pss_cons (ps_if (pt_cmpR o_ge (pv 2) (pe_callB c_lenS (by rfl) T.b_len (by decide +kernel) (pa_cons (pv 0) pa_nil)) (nomark _)) (pss_one ps_break) pss_nil)
    (pss_cons (ps_set (i := 4) sc__law_tokens.nd rfl (Or.inl rfl) (pv 2))
    (pss_one (ps_if (pt_cmpR op_inS1 (pe_ix ix_str (pv 0) (pv 2) (fun _ _ => rfl)) pe_str (by rfl)) (pss_cons (ps_set (i := 2) sc__law_tokens.nd rfl (Or.inl rfl) (pe_cO O__law_run (hr.mono (by decide)) rfl (pa_cons (pv 0) (pa_cons (pv 2) (pa_cons pe_str pa_nil)))))
    (pss_one (ps_expr (pe_bm PySem.F.plainAttrs_list PySem.F.slot_list_append PySem.F.type_list_append mt_append (pv 1) (pa_cons (pe_tup (pa_cons pe_str (pa_cons (pe_slice sl_str (pv 0) (po_some (pv 4)) (po_some (pv 2))) (pa_cons (pv 4) pa_nil)))) pa_nil))))) (pss_one (ps_if (pt_cmpR op_inS1 (pe_ix ix_str (pv 0) (pv 2) (fun _ _ => rfl)) pe_str (by rfl)) (pss_cons (ps_set (i := 2) sc__law_tokens.nd rfl (Or.inl rfl) (pe_cO O__law_run (hr.mono (by decide)) rfl (pa_cons (pv 0) (pa_cons (pe_op op_addX (pv 2) pe_int) (pa_cons pe_str pa_nil)))))
    (pss_cut (ps_set (i := 5) sc__law_tokens.nd rfl (Or.inl rfl) (pe_ifExp (pt_cmpR (op_eqX hr.units) (pe_ix ix_str (pv 0) (pv 4) (fun _ _ => rfl)) pe_str (nomark _)) (pe_slice sl_str (pv 0) (po_some (pe_op op_addX (pv 4) pe_int)) (po_some (pv 2))) (pe_slice sl_str (pv 0) (po_some (pv 4)) (po_some (pv 2)))))
    (pss_cons (ps_set (i := 6) sc__law_tokens.nd rfl (Or.inl rfl) (pe_or (pe_cmpR (op_eqX hr.units) (pe_callB c_lenS (by rfl) T.b_len (by decide +kernel) (pa_cons (pv 5) pa_nil)) pe_int (nomark _)) (pe_or (pe_cmpR o_gt (pe_callB c_lenS (by rfl) T.b_len (by decide +kernel) (pa_cons (pv 5) pa_nil)) pe_int (nomark _)) (pe_one (pe_and (pe_cmpR (op_eqX hr.units) (pe_ix ix_str (pv 5) pe_int (fun _ _ => rfl)) pe_str (nomark _)) (pe_one (pe_or (pe_cmpR o_gt (pe_callB c_lenS (by rfl) T.b_len (by decide +kernel) (pa_cons (pv 5) pa_nil)) pe_int (nomark _)) (pe_one (pe_cmpR (op_eqX hr.units) (pe_ix ix_str (pv 0) (pv 4) (fun _ _ => rfl)) pe_str (nomark _))))))))))
    (pss_one (ps_expr (pe_bm PySem.F.plainAttrs_list PySem.F.slot_list_append PySem.F.type_list_append mt_append (pv 1) (pa_cons (pe_tup (pa_cons (pe_ifExp (pt_val (pv 6)) pe_str pe_str) (pa_cons (pe_slice sl_str (pv 0) (po_some (pv 4)) (po_some (pv 2))) (pa_cons (pv 4) pa_nil)))) pa_nil))))))) (pss_one (ps_if (PW.pt (pw_or (pt_cmpR (op_eqX hr.units) (pe_slice sl_str (pv 0) (po_some (pv 2)) (po_some (pe_op op_addX (pv 2) pe_int))) pe_str (nomark _)) (pw_or1 (pt_cmpR op_inS1 (pe_ix ix_str (pv 0) (pv 2) (fun _ _ => rfl)) pe_str (by rfl))))) (pss_cons (ps_set (i := 2) sc__law_tokens.nd rfl (Or.inl rfl) (pe_op op_addX (pv 2) (pe_ifExp (pt_cmpR (op_eqX hr.units) (pe_ix ix_str (pv 0) (pv 2) (fun _ _ => rfl)) pe_str (nomark _)) pe_int pe_int)))
    (pss_one (ps_expr (pe_bm PySem.F.plainAttrs_list PySem.F.slot_list_append PySem.F.type_list_append mt_append (pv 1) (pa_cons (pe_tup (pa_cons pe_str (pa_cons (pe_slice sl_str (pv 0) (po_some (pv 4)) (po_some (pv 2))) (pa_cons (pv 4) pa_nil)))) pa_nil))))) (pss_cons (ps_expr (pe_bm PySem.F.plainAttrs_list PySem.F.slot_list_append PySem.F.type_list_append mt_append (pv 1) (pa_cons (pe_tup (pa_cons pe_str (pa_cons (pe_ix ix_str (pv 0) (pv 2) (fun _ _ => rfl)) (pa_cons (pv 4) pa_nil)))) pa_nil)))
    (pss_one ps_break))))))))))))
    (pss_cons (ps_expr (pe_bm PySem.F.plainAttrs_list PySem.F.slot_list_append PySem.F.type_list_append mt_append (pv 1) (pa_cons (pe_tup (pa_cons pe_str (pa_cons pe_str (pa_cons (pe_callB c_lenS (by rfl) T.b_len (by decide +kernel) (pa_cons (pv 0) pa_nil)) pa_nil)))) pa_nil)))
    (pss_one (ps_ret (pv 1)))))))

def t__law_expect (K : PySem.W.Frag) : TS := (tSeq (tAsg (tOp (rIxX K) (tOp (rIxX K) (tVar 0) (tC (.int 0))) (tOp (rIxX K) (tVar 0) (tC (.int 1)))) (gName 3))
    (tSeq (tIfS (tTest (tOp rNotNon (tOp (rIxX K) (tVar 0) (tC (.int 2))) (tC .non))) (tRet (tC (.str "0"))) tNext)
    (tSeq (tIfS (tOr (tTest (tOp (rNeX K) (tOp (rIxX K) (tVar 3) (tC (.int 0))) (tVar 1))) (tAnd (tTest (tOp rNotNon (tVar 2) (tC .non))) (tTest (tOp (rNeX K) (tOp (rIxX K) (tVar 3) (tC (.int 1))) (tVar 2))))) (tSeq (tAsg (tOp (rIxX K) (tVar 3) (tC (.int 2))) (gSub (tVar 0) (tC (.int 2)) rSetL))
    (tRet (tC (.str "0")))) tNext)
    (tCut (tIfS (tTest (tOp (rNeX K) (tVar 1) (tC (.str "end")))) (tAsg (tOp (rAddX K) (tOp (rIxX K) (tVar 0) (tC (.int 1))) (tC (.int 1))) (gSub (tVar 0) (tC (.int 1)) rSetL)) tNext)
    (tRet (tOp (rIxX K) (tVar 3) (tC (.int 1))))))))
theorem d__law_expect {E : XK} {f : Addr} {A : Around} {outer : List Env} {s : Shared} {H : Hp} {cdv : Value} (hr : Room 0 (A.deeper (PyProof.Rows.envOfC "_law_expect" (defScope s__law_expect) s.heap.objs.size f cdv))) (T : Txt K mg w D_READERS D_WORDS V_read_box V_read_condition V_read_conditional V_read_drop V_read_during V_read_first V_read_list V_read_nearest V_read_nothing V_read_number V_read_pair V_read_put V_read_skyline V_read_turn C_Reader tk_ALL tk_MOST_DIGITS)  :
    PSs (cxOf CX0 P w K mg base N__law_expect "_law_expect" (defScope s__law_expect) f cdv A outer s H E).nox (defBody s__law_expect) (t__law_expect K) :=
  (pss_cons (ps_set (i := 3) sc__law_expect.nd rfl (Or.inl rfl) (pe_ix ix_X (pe_ix ix_X (pv 0) pe_int (fun _ _ => rfl)) (pe_ix ix_X (pv 0) pe_int (fun _ _ => rfl)) (fun _ _ => rfl)))
    (pss_cons (ps_if (pt_cmpR o_notN (pe_ix ix_X (pv 0) pe_int (fun _ _ => rfl)) pe_non (nomark _)) (pss_one (ps_ret pe_str)) pss_nil)
    (pss_cons (ps_if (PW.pt (pw_or (pt_cmpR (op_neX hr.units) (pe_ix ix_X (pv 3) pe_int (fun _ _ => rfl)) (pv 1) (nomark _)) (pw_or1 (PW.pt (pw_and (pt_cmpR o_notN (pv 2) pe_non (nomark _)) (pw_and1 (pt_cmpR (op_neX hr.units) (pe_ix ix_X (pv 3) pe_int (fun _ _ => rfl)) (pv 2) (nomark _)))))))) (pss_cons (ps_asg (pe_ix ix_X (pv 3) pe_int (fun _ _ => rfl)) (pg_sub (pv 0) pe_int set_list))
    (pss_one (ps_ret pe_str))) pss_nil)
    (pss_cut (ps_if (pt_cmpR (op_neX hr.units) (pv 1) pe_str (nomark _)) (pss_one (ps_asg (pe_op op_addX (pe_ix ix_X (pv 0) pe_int (fun _ _ => rfl)) pe_int) (pg_sub (pv 0) pe_int set_list))) pss_nil)
    (pss_one (ps_ret (pe_ix ix_X (pv 3) pe_int (fun _ _ => rfl))))))))

def t__law_is_next (K : PySem.W.Frag) : TS := (tRet (tAndV (tOp rIsNon (tOp (rIxX K) (tVar 0) (tC (.int 2))) (tC .non)) (tAndV (tOp (rEqX K) (tOp (rIxX K) (tOp (rIxX K) (tOp (rIxX K) (tVar 0) (tC (.int 0))) (tOp (rIxX K) (tVar 0) (tC (.int 1)))) (tC (.int 1))) (tVar 1)) (tOp (rNeX K) (tOp (rIxX K) (tOp (rIxX K) (tOp (rIxX K) (tVar 0) (tC (.int 0))) (tOp (rIxX K) (tVar 0) (tC (.int 1)))) (tC (.int 0))) (tC (.str "bad"))))))
theorem d__law_is_next {E : XK} {f : Addr} {A : Around} {outer : List Env} {s : Shared} {H : Hp} {cdv : Value} (hr : Room 0 (A.deeper (PyProof.Rows.envOfC "_law_is_next" (defScope s__law_is_next) s.heap.objs.size f cdv))) (T : Txt K mg w D_READERS D_WORDS V_read_box V_read_condition V_read_conditional V_read_drop V_read_during V_read_first V_read_list V_read_nearest V_read_nothing V_read_number V_read_pair V_read_put V_read_skyline V_read_turn C_Reader tk_ALL tk_MOST_DIGITS)  :
    PSs (cxOf CX0 P w K mg base N__law_is_next "_law_is_next" (defScope s__law_is_next) f cdv A outer s H E).nox (defBody s__law_is_next) (t__law_is_next K) :=
  (pss_one (ps_ret (pe_and (pe_cmpR o_isN (pe_ix ix_X (pv 0) pe_int (fun _ _ => rfl)) pe_non (nomark _)) (pe_and (pe_cmpR (op_eqX hr.units) (pe_ix ix_X (pe_ix ix_X (pe_ix ix_X (pv 0) pe_int (fun _ _ => rfl)) (pe_ix ix_X (pv 0) pe_int (fun _ _ => rfl)) (fun _ _ => rfl)) pe_int (fun _ _ => rfl)) (pv 1) (nomark _)) (pe_one (pe_cmpR (op_neX hr.units) (pe_ix ix_X (pe_ix ix_X (pe_ix ix_X (pv 0) pe_int (fun _ _ => rfl)) (pe_ix ix_X (pv 0) pe_int (fun _ _ => rfl)) (fun _ _ => rfl)) pe_int (fun _ _ => rfl)) pe_str (nomark _)))))))

def t__law_read_list (K : PySem.W.Frag) (sp__law_expect_ : Sp) (sp__law_is_next_ : Sp) : TS := (tSeq (tDrop (tCallO sp__law_expect_ (tCons (tVar 0) (tCons (tC (.str "sign")) (tCons (tC (.str "[")) tNil)))))
    (tSeq (tAsg (tLst tNil) (gName 2))
    (tCut (tFor (iRng1 (tCons (tCB (rLen K) (tCons (tOp (rIxX K) (tVar 0) (tC (.int 0))) tNil)) tNil)) (gName 3) (tSeq (tAsg (tCB rIntS (tCons (tCallO sp__law_expect_ (tCons (tVar 0) (tCons (tC (.str "number")) (tCons (tC .non) tNil)))) tNil)) (gName 4))
    (tSeq (tAsg (tVar 4) (gName 5))
    (tCut (tIfS (tAnd (tB (tVar 1)) (tB (tCallO sp__law_is_next_ (tCons (tVar 0) (tCons (tC (.str "..")) tNil))))) (tSeq (tDrop (tCallO sp__law_expect_ (tCons (tVar 0) (tCons (tC (.str "sign")) (tCons (tC (.str "..")) tNil)))))
    (tAsg (tCB rIntS (tCons (tCallO sp__law_expect_ (tCons (tVar 0) (tCons (tC (.str "number")) (tCons (tC .non) tNil)))) tNil)) (gName 5))) tNext)
    (tSeq (tDrop (tBM K "list" rAppend (tVar 2) (tCons (tIf (tB (tVar 1)) (tTup (tCons (tVar 4) (tCons (tVar 5) tNil))) (tVar 4)) tNil)))
    (tSeq (tIfS (tNot (tB (tCallO sp__law_is_next_ (tCons (tVar 0) (tCons (tC (.str ",")) tNil))))) tBreak tNext)
    (tDrop (tCallO sp__law_expect_ (tCons (tVar 0) (tCons (tC (.str "sign")) (tCons (tC (.str ",")) tNil)))))))))))
    (tSeq (tDrop (tCallO sp__law_expect_ (tCons (tVar 0) (tCons (tC (.str "sign")) (tCons (tC (.str "]")) tNil)))))
    (tRet (tCB (rTupOf K) (tCons (tVar 2) tNil)))))))
theorem d__law_read_list {sp__law_expect_ : Sp} {sp__law_is_next_ : Sp} {E : XK} {f : Addr} {A : Around} {outer : List Env} {s : Shared} {H : Hp} {cdv : Value} (hr : Room 1 (A.deeper (PyProof.Rows.envOfC "_law_read_list" (defScope s__law_read_list) s.heap.objs.size f cdv))) (T : Txt K mg w D_READERS D_WORDS V_read_box V_read_condition V_read_conditional V_read_drop V_read_during V_read_first V_read_list V_read_nearest V_read_nothing V_read_number V_read_pair V_read_put V_read_skyline V_read_turn C_Reader tk_ALL tk_MOST_DIGITS) (O__law_expect : Ok P w K mg base 1 "_law_expect" ["state", "kind", "word"] (sp__law_expect_)) (O__law_is_next : Ok P w K mg base 1 "_law_is_next" ["state", "word"] (sp__law_is_next_)) :
    PSs (cxOf CX0 P w K mg base N__law_read_list "_law_read_list" (defScope s__law_read_list) f cdv A outer s H E).nox (defBody s__law_read_list) (t__law_read_list K sp__law_expect_ sp__law_is_next_) :=
  (pss_cons (ps_expr (pe_cO O__law_expect (hr.mono (by decide)) rfl (pa_cons (pv 0) (pa_cons pe_str (pa_cons pe_str pa_nil)))))
    (pss_cons (ps_set (i := 2) sc__law_read_list.nd rfl (Or.inl rfl) (pe_lst pa_nil))
    (pss_cut (ps_for PassesOwn.never rfl (pi_range1 (by rfl) T.b_range (pa_cons (pe_callB c_len (by rfl) T.b_len (by decide +kernel) (pa_cons (pe_ix ix_X (pv 0) pe_int (fun _ _ => rfl)) pa_nil)) pa_nil)) (pg_name (i := 3) sc__law_read_list.nd rfl (Or.inl rfl)) (pss_cons (ps_set (i := 4) sc__law_read_list.nd rfl (Or.inl rfl) (pe_callTy c_intS (by rfl) T.b_int (by decide +kernel) (pa_cons (pe_cO O__law_expect (hr.mono (by decide)) rfl (pa_cons (pv 0) (pa_cons pe_str (pa_cons pe_non pa_nil)))) pa_nil)))
    (pss_cons (ps_set (i := 5) sc__law_read_list.nd rfl (Or.inl rfl) (pv 4))
    (pss_cut (ps_if (PW.pt (pw_and (pt_val (pv 1)) (pw_and1 (pt_val (pe_cO O__law_is_next (hr.mono (by decide)) rfl (pa_cons (pv 0) (pa_cons pe_str pa_nil))))))) (pss_cons (ps_expr (pe_cO O__law_expect (hr.mono (by decide)) rfl (pa_cons (pv 0) (pa_cons pe_str (pa_cons pe_str pa_nil)))))
    (pss_one (ps_set (i := 5) sc__law_read_list.nd rfl (Or.inl rfl) (pe_callTy c_intS (by rfl) T.b_int (by decide +kernel) (pa_cons (pe_cO O__law_expect (hr.mono (by decide)) rfl (pa_cons (pv 0) (pa_cons pe_str (pa_cons pe_non pa_nil)))) pa_nil))))) pss_nil)
    (pss_cons (ps_expr (pe_bm PySem.F.plainAttrs_list PySem.F.slot_list_append PySem.F.type_list_append mt_append (pv 2) (pa_cons (pe_ifExp (pt_val (pv 1)) (pe_tup (pa_cons (pv 4) (pa_cons (pv 5) pa_nil))) (pv 4)) pa_nil)))
    (pss_cons (ps_if (pt_not (pt_val (pe_cO O__law_is_next (hr.mono (by decide)) rfl (pa_cons (pv 0) (pa_cons pe_str pa_nil))))) (pss_one ps_break) pss_nil)
    (pss_one (ps_expr (pe_cO O__law_expect (hr.mono (by decide)) rfl (pa_cons (pv 0) (pa_cons pe_str (pa_cons pe_str pa_nil))))))))))))
    (pss_cons (ps_expr (pe_cO O__law_expect (hr.mono (by decide)) rfl (pa_cons (pv 0) (pa_cons pe_str (pa_cons pe_str pa_nil)))))
    (pss_one (ps_ret (pe_callTy c_tuple (by rfl) T.b_tuple (by decide +kernel) (pa_cons (pv 2) pa_nil))))))))

def t__law_read_after (K : PySem.W.Frag) (sp__law_expect_ : Sp) : TS := (tSeq (tDrop (tCallO sp__law_expect_ (tCons (tVar 0) (tCons (tC (.str "word")) (tCons (tVar 1) tNil)))))
    (tRet (tCB rIntS (tCons (tCallO sp__law_expect_ (tCons (tVar 0) (tCons (tC (.str "number")) (tCons (tC .non) tNil)))) tNil))))
theorem d__law_read_after {sp__law_expect_ : Sp} {E : XK} {f : Addr} {A : Around} {outer : List Env} {s : Shared} {H : Hp} {cdv : Value} (hr : Room 1 (A.deeper (PyProof.Rows.envOfC "_law_read_after" (defScope s__law_read_after) s.heap.objs.size f cdv))) (T : Txt K mg w D_READERS D_WORDS V_read_box V_read_condition V_read_conditional V_read_drop V_read_during V_read_first V_read_list V_read_nearest V_read_nothing V_read_number V_read_pair V_read_put V_read_skyline V_read_turn C_Reader tk_ALL tk_MOST_DIGITS) (O__law_expect : Ok P w K mg base 1 "_law_expect" ["state", "kind", "word"] (sp__law_expect_)) :
    PSs (cxOf CX0 P w K mg base N__law_read_after "_law_read_after" (defScope s__law_read_after) f cdv A outer s H E).nox (defBody s__law_read_after) (t__law_read_after K sp__law_expect_) :=
  (pss_cons (ps_expr (pe_cO O__law_expect (hr.mono (by decide)) rfl (pa_cons (pv 0) (pa_cons pe_str (pa_cons (pv 1) pa_nil)))))
    (pss_one (ps_ret (pe_callTy c_intS (by rfl) T.b_int (by decide +kernel) (pa_cons (pe_cO O__law_expect (hr.mono (by decide)) rfl (pa_cons (pv 0) (pa_cons pe_str (pa_cons pe_non pa_nil)))) pa_nil)))))

def t__law_read_speed (K : PySem.W.Frag) (sp__law_expect_ : Sp) (sp__law_is_next_ : Sp) (sp__law_read_list_ : Sp) : TS := (tSeq (tIfS (tNot (tB (tCallO sp__law_is_next_ (tCons (tVar 0) (tCons (tC (.str "speed")) tNil))))) (tRet (tVar 1)) tNext)
    (tSeq (tDrop (tCallO sp__law_expect_ (tCons (tVar 0) (tCons (tC (.str "word")) (tCons (tC (.str "speed")) tNil)))))
    (tRet (tCallO sp__law_read_list_ (tCons (tVar 0) (tCons (tC (.bl false)) tNil))))))
theorem d__law_read_speed {sp__law_expect_ : Sp} {sp__law_is_next_ : Sp} {sp__law_read_list_ : Sp} {E : XK} {f : Addr} {A : Around} {outer : List Env} {s : Shared} {H : Hp} {cdv : Value} (hr : Room 2 (A.deeper (PyProof.Rows.envOfC "_law_read_speed" (defScope s__law_read_speed) s.heap.objs.size f cdv))) (T : Txt K mg w D_READERS D_WORDS V_read_box V_read_condition V_read_conditional V_read_drop V_read_during V_read_first V_read_list V_read_nearest V_read_nothing V_read_number V_read_pair V_read_put V_read_skyline V_read_turn C_Reader tk_ALL tk_MOST_DIGITS) (O__law_expect : Ok P w K mg base 1 "_law_expect" ["state", "kind", "word"] (sp__law_expect_)) (O__law_is_next : Ok P w K mg base 1 "_law_is_next" ["state", "word"] (sp__law_is_next_)) (O__law_read_list : Ok P w K mg base 2 "_law_read_list" ["state", "pairs"] (sp__law_read_list_)) :
    PSs (cxOf CX0 P w K mg base N__law_read_speed "_law_read_speed" (defScope s__law_read_speed) f cdv A outer s H E).nox (defBody s__law_read_speed) (t__law_read_speed K sp__law_expect_ sp__law_is_next_ sp__law_read_list_) :=
  (pss_cons (ps_if (pt_not (pt_val (pe_cO O__law_is_next (hr.mono (by decide)) rfl (pa_cons (pv 0) (pa_cons pe_str pa_nil))))) (pss_one (ps_ret (pv 1))) pss_nil)
    (pss_cons (ps_expr (pe_cO O__law_expect (hr.mono (by decide)) rfl (pa_cons (pv 0) (pa_cons pe_str (pa_cons pe_str pa_nil)))))
    (pss_one (ps_ret (pe_cO O__law_read_list (hr.mono (by decide)) rfl (pa_cons (pv 0) (pa_cons pe_bl pa_nil)))))))

def t__law_read_wants (K : PySem.W.Frag) (sp__law_expect_ : Sp) (sp__law_is_next_ : Sp) (sp__law_read_list_ : Sp) : TS := (tSeq (tIfS (tB (tCallO sp__law_is_next_ (tCons (tVar 0) (tCons (tC (.str "all")) tNil)))) (tSeq (tDrop (tCallO sp__law_expect_ (tCons (tVar 0) (tCons (tC (.str "word")) (tCons (tC (.str "all")) tNil)))))
    (tRet (tTup tNil))) tNext)
    (tSeq (tAsg (tLst tNil) (gName 1))
    (tCut (tFor (iRng1 (tCons (tCB (rLen K) (tCons (tOp (rIxX K) (tVar 0) (tC (.int 0))) tNil)) tNil)) (gName 2) (tSeq (tAsg (tCallO sp__law_expect_ (tCons (tVar 0) (tCons (tC (.str "word")) (tCons (tC .non) tNil)))) (gName 3))
    (tCut (tIfS (tAnd (tTest (tOp rIsNon (tOp (rIxX K) (tVar 0) (tC (.int 2))) (tC .non))) (tTest (tOp (rIn K true) (tVar 3) (tTup (tCons (tC (.str "meets")) (tCons (tC (.str "inside")) (tCons (tC (.str "covers")) tNil))))))) (tAsg (tOp (rIxX K) (tOp (rIxX K) (tOp (rIxX K) (tVar 0) (tC (.int 0))) (tOp rSub (tOp (rIxX K) (tVar 0) (tC (.int 1))) (tC (.int 1)))) (tC (.int 2))) (gSub (tVar 0) (tC (.int 2)) rSetL)) tNext)
    (tSeq (tDrop (tBM K "list" rAppend (tVar 1) (tCons (tTup (tCons (tVar 3) (tCons (tCallO sp__law_read_list_ (tCons (tVar 0) (tCons (tC (.bl true)) tNil))) tNil))) tNil)))
    (tSeq (tIfS (tNot (tB (tCallO sp__law_is_next_ (tCons (tVar 0) (tCons (tC (.str "and")) tNil))))) tBreak tNext)
    (tDrop (tCallO sp__law_expect_ (tCons (tVar 0) (tCons (tC (.str "word")) (tCons (tC (.str "and")) tNil))))))))))
    (tRet (tCB (rTupOf K) (tCons (tVar 1) tNil))))))
theorem d__law_read_wants {sp__law_expect_ : Sp} {sp__law_is_next_ : Sp} {sp__law_read_list_ : Sp} {E : XK} {f : Addr} {A : Around} {outer : List Env} {s : Shared} {H : Hp} {cdv : Value} (hr : Room 2 (A.deeper (PyProof.Rows.envOfC "_law_read_wants" (defScope s__law_read_wants) s.heap.objs.size f cdv))) (T : Txt K mg w D_READERS D_WORDS V_read_box V_read_condition V_read_conditional V_read_drop V_read_during V_read_first V_read_list V_read_nearest V_read_nothing V_read_number V_read_pair V_read_put V_read_skyline V_read_turn C_Reader tk_ALL tk_MOST_DIGITS) (O__law_expect : Ok P w K mg base 1 "_law_expect" ["state", "kind", "word"] (sp__law_expect_)) (O__law_is_next : Ok P w K mg base 1 "_law_is_next" ["state", "word"] (sp__law_is_next_)) (O__law_read_list : Ok P w K mg base 2 "_law_read_list" ["state", "pairs"] (sp__law_read_list_)) :
    PSs (cxOf CX0 P w K mg base N__law_read_wants "_law_read_wants" (defScope s__law_read_wants) f cdv A outer s H E).nox (defBody s__law_read_wants) (t__law_read_wants K sp__law_expect_ sp__law_is_next_ sp__law_read_list_) :=
  (pss_cons (ps_if (pt_val (pe_cO O__law_is_next (hr.mono (by decide)) rfl (pa_cons (pv 0) (pa_cons pe_str pa_nil)))) (pss_cons (ps_expr (pe_cO O__law_expect (hr.mono (by decide)) rfl (pa_cons (pv 0) (pa_cons pe_str (pa_cons pe_str pa_nil)))))
    (pss_one (ps_ret (pe_tup pa_nil)))) pss_nil)
    (pss_cons (ps_set (i := 1) sc__law_read_wants.nd rfl (Or.inl rfl) (pe_lst pa_nil))
    (pss_cut (ps_for PassesOwn.never rfl (pi_range1 (by rfl) T.b_range (pa_cons (pe_callB c_len (by rfl) T.b_len (by decide +kernel) (pa_cons (pe_ix ix_X (pv 0) pe_int (fun _ _ => rfl)) pa_nil)) pa_nil)) (pg_name (i := 2) sc__law_read_wants.nd rfl (Or.inl rfl)) (pss_cons (ps_set (i := 3) sc__law_read_wants.nd rfl (Or.inl rfl) (pe_cO O__law_expect (hr.mono (by decide)) rfl (pa_cons (pv 0) (pa_cons pe_str (pa_cons pe_non pa_nil)))))
    (pss_cut (ps_if (PW.pt (pw_and (pt_cmpR o_isN (pe_ix ix_X (pv 0) pe_int (fun _ _ => rfl)) pe_non (nomark _)) (pw_and1 (pt_cmpR op_notIn_seq (pv 3) (pe_tup (pa_cons pe_str (pa_cons pe_str (pa_cons pe_str pa_nil)))) (by rfl))))) (pss_one (ps_asg (pe_ix ix_X (pe_ix ix_X (pe_ix ix_X (pv 0) pe_int (fun _ _ => rfl)) (pe_op o_sub (pe_ix ix_X (pv 0) pe_int (fun _ _ => rfl)) pe_int) (fun _ _ => rfl)) pe_int (fun _ _ => rfl)) (pg_sub (pv 0) pe_int set_list))) pss_nil)
    (pss_cons (ps_expr (pe_bm PySem.F.plainAttrs_list PySem.F.slot_list_append PySem.F.type_list_append mt_append (pv 1) (pa_cons (pe_tup (pa_cons (pv 3) (pa_cons (pe_cO O__law_read_list (hr.mono (by decide)) rfl (pa_cons (pv 0) (pa_cons pe_bl pa_nil))) pa_nil))) pa_nil)))
    (pss_cons (ps_if (pt_not (pt_val (pe_cO O__law_is_next (hr.mono (by decide)) rfl (pa_cons (pv 0) (pa_cons pe_str pa_nil))))) (pss_one ps_break) pss_nil)
    (pss_one (ps_expr (pe_cO O__law_expect (hr.mono (by decide)) rfl (pa_cons (pv 0) (pa_cons pe_str (pa_cons pe_str pa_nil)))))))))))
    (pss_one (ps_ret (pe_callTy c_tuple (by rfl) T.b_tuple (by decide +kernel) (pa_cons (pv 1) pa_nil)))))))

def t__law_read (K : PySem.W.Frag) (sp__law_expect_ : Sp) (sp__law_read_after_ : Sp) (sp__law_read_list_ : Sp) (sp__law_read_speed_ : Sp) (sp__law_read_wants_ : Sp) : TS := (tSeq (tAsg (tCallO sp__law_expect_ (tCons (tVar 0) (tCons (tC (.str "word")) (tCons (tC .non) tNil)))) (gName 1))
    (tSeq (tIfS (tOr (tTest (tOp (rEqX K) (tVar 1) (tC (.str "drop")))) (tTest (tOp (rEqX K) (tVar 1) (tC (.str "skyline"))))) (tRet (tTup (tCons (tVar 1) (tCons (tIf (tTest (tOp (rEqX K) (tVar 1) (tC (.str "drop")))) (tCB rIntS (tCons (tCallO sp__law_expect_ (tCons (tVar 0) (tCons (tC (.str "number")) (tCons (tC .non) tNil)))) tNil)) (tCallO sp__law_read_after_ (tCons (tVar 0) (tCons (tC (.str "at")) tNil)))) tNil)))) tNext)
    (tSeq (tIfS (tTest (tOp (rEqX K) (tVar 1) (tC (.str "put")))) (tSeq (tAsg (tCB rIntS (tCons (tCallO sp__law_expect_ (tCons (tVar 0) (tCons (tC (.str "number")) (tCons (tC .non) tNil)))) tNil)) (gName 2))
    (tSeq (tAsg (tCallO sp__law_read_list_ (tCons (tVar 0) (tCons (tC (.bl true)) tNil))) (gName 3))
    (tRet (tTup (tCons (tVar 1) (tCons (tVar 2) (tCons (tVar 3) (tCons (tCallO sp__law_read_speed_ (tCons (tVar 0) (tCons (tC .non) tNil))) tNil)))))))) tNext)
    (tSeq (tIfS (tTest (tOp (rEqX K) (tVar 1) (tC (.str "turn")))) (tSeq (tAsg (tCB rIntS (tCons (tCallO sp__law_expect_ (tCons (tVar 0) (tCons (tC (.str "number")) (tCons (tC .non) tNil)))) tNil)) (gName 2))
    (tSeq (tAsg (tCallO sp__law_read_after_ (tCons (tVar 0) (tCons (tC (.str "at")) tNil))) (gName 4))
    (tSeq (tDrop (tCallO sp__law_expect_ (tCons (tVar 0) (tCons (tC (.str "word")) (tCons (tC (.str "speed")) tNil)))))
    (tRet (tTup (tCons (tVar 1) (tCons (tVar 2) (tCons (tVar 4) (tCons (tCallO sp__law_read_list_ (tCons (tVar 0) (tCons (tC (.bl false)) tNil))) tNil))))))))) tNext)
    (tSeq (tIfS (tOr (tTest (tOp (rEqX K) (tVar 1) (tC (.str "select")))) (tTest (tOp (rEqX K) (tVar 1) (tC (.str "count"))))) (tSeq (tAsg (tCallO sp__law_read_wants_ (tCons (tVar 0) tNil)) (gName 5))
    (tRet (tTup (tCons (tVar 1) (tCons (tVar 5) (tCons (tCallO sp__law_read_after_ (tCons (tVar 0) (tCons (tC (.str "at")) tNil))) tNil)))))) tNext)
    (tSeq (tIfS (tTest (tOp (rEqX K) (tVar 1) (tC (.str "nearest")))) (tSeq (tAsg (tCB rIntS (tCons (tCallO sp__law_expect_ (tCons (tVar 0) (tCons (tC (.str "number")) (tCons (tC .non) tNil)))) tNil)) (gName 6))
    (tSeq (tDrop (tCallO sp__law_expect_ (tCons (tVar 0) (tCons (tC (.str "word")) (tCons (tC (.str "to")) tNil)))))
    (tSeq (tAsg (tCallO sp__law_read_list_ (tCons (tVar 0) (tCons (tC (.bl true)) tNil))) (gName 3))
    (tRet (tTup (tCons (tVar 1) (tCons (tVar 6) (tCons (tVar 3) (tCons (tCallO sp__law_read_after_ (tCons (tVar 0) (tCons (tC (.str "at")) tNil))) tNil))))))))) tNext)
    (tSeq (tIfS (tOr (tTest (tOp (rEqX K) (tVar 1) (tC (.str "during")))) (tTest (tOp (rEqX K) (tVar 1) (tC (.str "first"))))) (tSeq (tAsg (tCallO sp__law_read_list_ (tCons (tVar 0) (tCons (tC (.bl true)) tNil))) (gName 3))
    (tCut (tAsg (tIf (tTest (tOp (rEqX K) (tVar 1) (tC (.str "first")))) (tCallO sp__law_read_speed_ (tCons (tVar 0) (tCons (tCB (rTupOf K) (tCons (tLc (iX K (tVar 3)) (gName 10) tYes (tC (.int 0)) [10]) tNil)) tNil))) (tC .non)) (gName 7))
    (tSeq (tAsg (tCallO sp__law_read_after_ (tCons (tVar 0) (tCons (tC (.str "from")) tNil))) (gName 8))
    (tSeq (tAsg (tCallO sp__law_read_after_ (tCons (tVar 0) (tCons (tC (.str "to")) tNil))) (gName 9))
    (tRet (tIf (tTest (tOp (rEqX K) (tVar 1) (tC (.str "during")))) (tTup (tCons (tVar 1) (tCons (tVar 3) (tCons (tVar 8) (tCons (tVar 9) tNil))))) (tTup (tCons (tVar 1) (tCons (tVar 3) (tCons (tVar 7) (tCons (tVar 8) (tCons (tVar 9) tNil)))))))))))) tNext)
    (tCut (tIfS (tAnd (tTest (tOp (rNeX K) (tVar 1) (tC (.str "commit")))) (tAnd (tTest (tOp (rNeX K) (tVar 1) (tC (.str "rollback")))) (tTest (tOp rIsNon (tOp (rIxX K) (tVar 0) (tC (.int 2))) (tC .non))))) (tAsg (tOp (rIxX K) (tOp (rIxX K) (tOp (rIxX K) (tVar 0) (tC (.int 0))) (tC (.int 0))) (tC (.int 2))) (gSub (tVar 0) (tC (.int 2)) rSetL)) tNext)
    (tRet (tTup (tCons (tVar 1) tNil)))))))))))
theorem d__law_read {sp__law_expect_ : Sp} {sp__law_read_after_ : Sp} {sp__law_read_list_ : Sp} {sp__law_read_speed_ : Sp} {sp__law_read_wants_ : Sp} {E : XK} {f : Addr} {A : Around} {outer : List Env} {s : Shared} {H : Hp} {cdv : Value} (hr : Room 3 (A.deeper (PyProof.Rows.envOfC "_law_read" (defScope s__law_read) s.heap.objs.size f cdv))) (T : Txt K mg w D_READERS D_WORDS V_read_box V_read_condition V_read_conditional V_read_drop V_read_during V_read_first V_read_list V_read_nearest V_read_nothing V_read_number V_read_pair V_read_put V_read_skyline V_read_turn C_Reader tk_ALL tk_MOST_DIGITS) (O__law_expect : Ok P w K mg base 1 "_law_expect" ["state", "kind", "word"] (sp__law_expect_)) (O__law_read_after : Ok P w K mg base 2 "_law_read_after" ["state", "word"] (sp__law_read_after_)) (O__law_read_list : Ok P w K mg base 2 "_law_read_list" ["state", "pairs"] (sp__law_read_list_)) (O__law_read_speed : Ok P w K mg base 3 "_law_read_speed" ["state", "other"] (sp__law_read_speed_)) (O__law_read_wants : Ok P w K mg base 3 "_law_read_wants" ["state"] (sp__law_read_wants_)) :
    PSs (cxOf CX0 P w K mg base N__law_read "_law_read" (defScope s__law_read) f cdv A outer s H E).nox (defBody s__law_read) (t__law_read K sp__law_expect_ sp__law_read_after_ sp__law_read_list_ sp__law_read_speed_ sp__law_read_wants_) :=
  (pss_cons (ps_set (i := 1) sc__law_read.nd rfl (Or.inl rfl) (pe_cO O__law_expect (hr.mono (by decide)) rfl (pa_cons (pv 0) (pa_cons pe_str (pa_cons pe_non pa_nil)))))
    (pss_cons (ps_if (PW.pt (pw_or (pt_cmpR (op_eqX hr.units) (pv 1) pe_str (nomark _)) (pw_or1 (pt_cmpR (op_eqX hr.units) (pv 1) pe_str (nomark _))))) (pss_one (ps_ret (pe_tup (pa_cons (pv 1) (pa_cons (pe_ifExp (pt_cmpR (op_eqX hr.units) (pv 1) pe_str (nomark _)) (pe_callTy c_intS (by rfl) T.b_int (by decide +kernel) (pa_cons (pe_cO O__law_expect (hr.mono (by decide)) rfl (pa_cons (pv 0) (pa_cons pe_str (pa_cons pe_non pa_nil)))) pa_nil)) (pe_cO O__law_read_after (hr.mono (by decide)) rfl (pa_cons (pv 0) (pa_cons pe_str pa_nil)))) pa_nil))))) pss_nil)
    (pss_cons (ps_if (pt_cmpR (op_eqX hr.units) (pv 1) pe_str (nomark _)) (pss_cons (ps_set (i := 2) sc__law_read.nd rfl (Or.inl rfl) (pe_callTy c_intS (by rfl) T.b_int (by decide +kernel) (pa_cons (pe_cO O__law_expect (hr.mono (by decide)) rfl (pa_cons (pv 0) (pa_cons pe_str (pa_cons pe_non pa_nil)))) pa_nil)))
    (pss_cons (ps_set (i := 3) sc__law_read.nd rfl (Or.inl rfl) (pe_cO O__law_read_list (hr.mono (by decide)) rfl (pa_cons (pv 0) (pa_cons pe_bl pa_nil))))
    (pss_one (ps_ret (pe_tup (pa_cons (pv 1) (pa_cons (pv 2) (pa_cons (pv 3) (pa_cons (pe_cO O__law_read_speed (hr.mono (by decide)) rfl (pa_cons (pv 0) (pa_cons pe_non pa_nil))) pa_nil))))))))) pss_nil)
    (pss_cons (ps_if (pt_cmpR (op_eqX hr.units) (pv 1) pe_str (nomark _)) (pss_cons (ps_set (i := 2) sc__law_read.nd rfl (Or.inl rfl) (pe_callTy c_intS (by rfl) T.b_int (by decide +kernel) (pa_cons (pe_cO O__law_expect (hr.mono (by decide)) rfl (pa_cons (pv 0) (pa_cons pe_str (pa_cons pe_non pa_nil)))) pa_nil)))
    (pss_cons (ps_set (i := 4) sc__law_read.nd rfl (Or.inl rfl) (pe_cO O__law_read_after (hr.mono (by decide)) rfl (pa_cons (pv 0) (pa_cons pe_str pa_nil))))
    (pss_cons (ps_expr (pe_cO O__law_expect (hr.mono (by decide)) rfl (pa_cons (pv 0) (pa_cons pe_str (pa_cons pe_str pa_nil)))))
    (pss_one (ps_ret (pe_tup (pa_cons (pv 1) (pa_cons (pv 2) (pa_cons (pv 4) (pa_cons (pe_cO O__law_read_list (hr.mono (by decide)) rfl (pa_cons (pv 0) (pa_cons pe_bl pa_nil))) pa_nil)))))))))) pss_nil)
    (pss_cons (ps_if (PW.pt (pw_or (pt_cmpR (op_eqX hr.units) (pv 1) pe_str (nomark _)) (pw_or1 (pt_cmpR (op_eqX hr.units) (pv 1) pe_str (nomark _))))) (pss_cons (ps_set (i := 5) sc__law_read.nd rfl (Or.inl rfl) (pe_cO O__law_read_wants (hr.mono (by decide)) rfl (pa_cons (pv 0) pa_nil)))
    (pss_one (ps_ret (pe_tup (pa_cons (pv 1) (pa_cons (pv 5) (pa_cons (pe_cO O__law_read_after (hr.mono (by decide)) rfl (pa_cons (pv 0) (pa_cons pe_str pa_nil))) pa_nil))))))) pss_nil)
    (pss_cons (ps_if (pt_cmpR (op_eqX hr.units) (pv 1) pe_str (nomark _)) (pss_cons (ps_set (i := 6) sc__law_read.nd rfl (Or.inl rfl) (pe_callTy c_intS (by rfl) T.b_int (by decide +kernel) (pa_cons (pe_cO O__law_expect (hr.mono (by decide)) rfl (pa_cons (pv 0) (pa_cons pe_str (pa_cons pe_non pa_nil)))) pa_nil)))
    (pss_cons (ps_expr (pe_cO O__law_expect (hr.mono (by decide)) rfl (pa_cons (pv 0) (pa_cons pe_str (pa_cons pe_str pa_nil)))))
    (pss_cons (ps_set (i := 3) sc__law_read.nd rfl (Or.inl rfl) (pe_cO O__law_read_list (hr.mono (by decide)) rfl (pa_cons (pv 0) (pa_cons pe_bl pa_nil))))
    (pss_one (ps_ret (pe_tup (pa_cons (pv 1) (pa_cons (pv 6) (pa_cons (pv 3) (pa_cons (pe_cO O__law_read_after (hr.mono (by decide)) rfl (pa_cons (pv 0) (pa_cons pe_str pa_nil))) pa_nil)))))))))) pss_nil)
    (pss_cons (ps_if (PW.pt (pw_or (pt_cmpR (op_eqX hr.units) (pv 1) pe_str (nomark _)) (pw_or1 (pt_cmpR (op_eqX hr.units) (pv 1) pe_str (nomark _))))) (pss_cons (ps_set (i := 3) sc__law_read.nd rfl (Or.inl rfl) (pe_cO O__law_read_list (hr.mono (by decide)) rfl (pa_cons (pv 0) (pa_cons pe_bl pa_nil))))
    (pss_cut (ps_set (i := 7) sc__law_read.nd rfl (Or.inl rfl) (pe_ifExp (pt_cmpR (op_eqX hr.units) (pv 1) pe_str (nomark _)) (pe_cO O__law_read_speed (hr.mono (by decide)) rfl (pa_cons (pv 0) (pa_cons (pe_callTy c_tuple (by rfl) T.b_tuple (by decide +kernel) (pa_cons (pe_lc (own := [("pair", 10)]) (g := (gName 10)) (tt := tYes) (te := (tC (.int 0))) rfl sc__law_read.nd (pi_X (pv 3)) (blkOk_by (N := N__law_read) (sc := defScope s__law_read) (own := [("pair", 10)]) (by decide +kernel)) (fun _ _ _ _ _ => (pg_name (i := 10) sc__law_read.nd rfl (Or.inl rfl))) (fun _ _ _ _ _ => pts_nil) (fun _ _ _ _ _ => pe_int)) pa_nil)) pa_nil))) pe_non))
    (pss_cons (ps_set (i := 8) sc__law_read.nd rfl (Or.inl rfl) (pe_cO O__law_read_after (hr.mono (by decide)) rfl (pa_cons (pv 0) (pa_cons pe_str pa_nil))))
    (pss_cons (ps_set (i := 9) sc__law_read.nd rfl (Or.inl rfl) (pe_cO O__law_read_after (hr.mono (by decide)) rfl (pa_cons (pv 0) (pa_cons pe_str pa_nil))))
    (pss_one (ps_ret (pe_ifExp (pt_cmpR (op_eqX hr.units) (pv 1) pe_str (nomark _)) (pe_tup (pa_cons (pv 1) (pa_cons (pv 3) (pa_cons (pv 8) (pa_cons (pv 9) pa_nil))))) (pe_tup (pa_cons (pv 1) (pa_cons (pv 3) (pa_cons (pv 7) (pa_cons (pv 8) (pa_cons (pv 9) pa_nil))))))))))))) pss_nil)
    (pss_cut (ps_if (PW.pt (pw_and (pt_cmpR (op_neX hr.units) (pv 1) pe_str (nomark _)) (pw_and (pt_cmpR (op_neX hr.units) (pv 1) pe_str (nomark _)) (pw_and1 (pt_cmpR o_isN (pe_ix ix_X (pv 0) pe_int (fun _ _ => rfl)) pe_non (nomark _)))))) (pss_one (ps_asg (pe_ix ix_X (pe_ix ix_X (pe_ix ix_X (pv 0) pe_int (fun _ _ => rfl)) pe_int (fun _ _ => rfl)) pe_int (fun _ _ => rfl)) (pg_sub (pv 0) pe_int set_list))) pss_nil)
    (pss_one (ps_ret (pe_tup (pa_cons (pv 1) pa_nil))))))))))))

def t__law_parsed (K : PySem.W.Frag) (sp__law_expect_ : Sp) (sp__law_read_ : Sp) (sp__law_tokens_ : Sp) : TS := (tSeq (tAsg (tLst (tCons (tCallO sp__law_tokens_ (tCons (tVar 0) tNil)) (tCons (tC (.int 0)) (tCons (tC .non) tNil)))) (gName 1))
    (tSeq (tAsg (tCallO sp__law_read_ (tCons (tVar 1) tNil)) (gName 2))
    (tSeq (tDrop (tCallO sp__law_expect_ (tCons (tVar 1) (tCons (tC (.str "end")) (tCons (tC .non) tNil)))))
    (tRet (tIf (tTest (tOp rIsNon (tOp (rIxX K) (tVar 1) (tC (.int 2))) (tC .non))) (tVar 2) (tTup (tCons (tC (.str "at")) (tCons (tOp (rIxX K) (tVar 1) (tC (.int 2))) tNil))))))))
theorem d__law_parsed {sp__law_expect_ : Sp} {sp__law_read_ : Sp} {sp__law_tokens_ : Sp} {E : XK} {f : Addr} {A : Around} {outer : List Env} {s : Shared} {H : Hp} {cdv : Value} (hr : Room 4 (A.deeper (PyProof.Rows.envOfC "_law_parsed" (defScope s__law_parsed) s.heap.objs.size f cdv))) (T : Txt K mg w D_READERS D_WORDS V_read_box V_read_condition V_read_conditional V_read_drop V_read_during V_read_first V_read_list V_read_nearest V_read_nothing V_read_number V_read_pair V_read_put V_read_skyline V_read_turn C_Reader tk_ALL tk_MOST_DIGITS) (O__law_expect : Ok P w K mg base 1 "_law_expect" ["state", "kind", "word"] (sp__law_expect_)) (O__law_read : Ok P w K mg base 4 "_law_read" ["state"] (sp__law_read_)) (O__law_tokens : Ok P w K mg base 2 "_law_tokens" ["text"] (sp__law_tokens_)) :
    PSs (cxOf CX0 P w K mg base N__law_parsed "_law_parsed" (defScope s__law_parsed) f cdv A outer s H E).nox (defBody s__law_parsed) (t__law_parsed K sp__law_expect_ sp__law_read_ sp__law_tokens_) :=
  (pss_cons (ps_set (i := 1) sc__law_parsed.nd rfl (Or.inl rfl) (pe_lst (pa_cons (pe_cO O__law_tokens (hr.mono (by decide)) rfl (pa_cons (pv 0) pa_nil)) (pa_cons pe_int (pa_cons pe_non pa_nil)))))
    (pss_cons (ps_set (i := 2) sc__law_parsed.nd rfl (Or.inl rfl) (pe_cO O__law_read (hr.mono (by decide)) rfl (pa_cons (pv 1) pa_nil)))
    (pss_cons (ps_expr (pe_cO O__law_expect (hr.mono (by decide)) rfl (pa_cons (pv 1) (pa_cons pe_str (pa_cons pe_non pa_nil)))))
    (pss_one (ps_ret (pe_ifExp (pt_cmpR o_isN (pe_ix ix_X (pv 1) pe_int (fun _ _ => rfl)) pe_non (nomark _)) (pv 2) (pe_tup (pa_cons pe_str (pa_cons (pe_ix ix_X (pv 1) pe_int (fun _ _ => rfl)) pa_nil)))))))))

def t__law_spaced (K : PySem.W.Frag) (sp__law_take_ : Sp) (sp__law_tokens_ : Sp) : TS := (tSeq (tAsg (tC (.str "")) (gName 3))
    (tSeq (tFor (iX K (tCallO sp__law_tokens_ (tCons (tVar 2) tNil))) (gName 4) (tSeq (tAsg (tCallO sp__law_take_ (tCons (tVar 0) (tCons (tVar 1) (tCons (tC (.int 3)) tNil)))) (gName 5))
    (tCut (tIfS (tAnd (tTest (tOp rGt (tCB rLenS (tCons (tVar 3) tNil)) (tC (.int 0)))) (tAnd (tTest (tOp (rEqX K) (tVar 5) (tC (.int 0)))) (tAnd (tTest (tOp (rEqX K) (tOp (rIxX K) (tVar 4) (tC (.int 0))) (tC (.str "word")))) (tTest (tOp rInS1 (tOp rIxS (tVar 3) (tOp rSub (tCB rLenS (tCons (tVar 3) tNil)) (tC (.int 1)))) (tC (.str "abcdefghijklmnopqrstuvwxyz"))))))) (tAsg (tC (.int 1)) (gName 5)) tNext)
    (tCut (tIfS (tAnd (tTest (tOp rGt (tCB rLenS (tCons (tVar 3) tNil)) (tC (.int 0)))) (tAnd (tTest (tOp (rEqX K) (tVar 5) (tC (.int 0)))) (tAnd (tTest (tOp rInS1 (tSl rSlS (tOp (rIxX K) (tVar 4) (tC (.int 1))) tNoPart (tPart (tC (.int 1)))) (tC (.str "-0123456789")))) (tTest (tOp rInS1 (tOp rIxS (tVar 3) (tOp rSub (tCB rLenS (tCons (tVar 3) tNil)) (tC (.int 1)))) (tC (.str "-0123456789"))))))) (tAsg (tC (.int 1)) (gName 5)) tNext)
    (tAsg (tOp rAddStr (tOp rAddStr (tVar 3) (tOp rMulS0 (tC (.str " ")) (tVar 5))) (tOp (rIxX K) (tVar 4) (tC (.int 1)))) (gName 3))))))
    (tRet (tVar 3))))
theorem d__law_spaced {sp__law_take_ : Sp} {sp__law_tokens_ : Sp} {E : XK} {f : Addr} {A : Around} {outer : List Env} {s : Shared} {H : Hp} {cdv : Value} (hr : Room 2 (A.deeper (PyProof.Rows.envOfC "_law_spaced" (defScope s__law_spaced) s.heap.objs.size f cdv))) (T : Txt K mg w D_READERS D_WORDS V_read_box V_read_condition V_read_conditional V_read_drop V_read_during V_read_first V_read_list V_read_nearest V_read_nothing V_read_number V_read_pair V_read_put V_read_skyline V_read_turn C_Reader tk_ALL tk_MOST_DIGITS) (O__law_take : Ok P w K mg base 2 "_law_take" ["row", "spot", "limit"] (sp__law_take_)) (O__law_tokens : Ok P w K mg base 2 "_law_tokens" ["text"] (sp__law_tokens_)) :
    PSs (cxOf CX0 P w K mg base N__law_spaced "_law_spaced" (defScope s__law_spaced) f cdv A outer s H E).nox (defBody s__law_spaced) (t__law_spaced K sp__law_take_ sp__law_tokens_) :=
  (pss_cons (ps_set (i := 3) sc__law_spaced.nd rfl (Or.inl rfl) pe_str)
    (pss_cons (ps_for PassesOwn.never rfl (pi_X (pe_cO O__law_tokens (hr.mono (by decide)) rfl (pa_cons (pv 2) pa_nil))) (pg_name (i := 4) sc__law_spaced.nd rfl (Or.inl rfl)) (pss_cons (ps_set (i := 5) sc__law_spaced.nd rfl (Or.inl rfl) (pe_cO O__law_take (hr.mono (by decide)) rfl (pa_cons (pv 0) (pa_cons (pv 1) (pa_cons pe_int pa_nil)))))
    (pss_cut (ps_if (PW.pt (pw_and (pt_cmpR o_gt (pe_callB c_lenS (by rfl) T.b_len (by decide +kernel) (pa_cons (pv 3) pa_nil)) pe_int (nomark _)) (pw_and (pt_cmpR (op_eqX hr.units) (pv 5) pe_int (nomark _)) (pw_and (pt_cmpR (op_eqX hr.units) (pe_ix ix_X (pv 4) pe_int (fun _ _ => rfl)) pe_str (nomark _)) (pw_and1 (pt_cmpR op_inS1 (pe_ix ix_str (pv 3) (pe_op o_sub (pe_callB c_lenS (by rfl) T.b_len (by decide +kernel) (pa_cons (pv 3) pa_nil)) pe_int) (fun _ _ => rfl)) pe_str (by rfl))))))) (pss_one (ps_set (i := 5) sc__law_spaced.nd rfl (Or.inl rfl) pe_int)) pss_nil)
    (pss_cut (ps_if (PW.pt (pw_and (pt_cmpR o_gt (pe_callB c_lenS (by rfl) T.b_len (by decide +kernel) (pa_cons (pv 3) pa_nil)) pe_int (nomark _)) (pw_and (pt_cmpR (op_eqX hr.units) (pv 5) pe_int (nomark _)) (pw_and (pt_cmpR op_inS1 (pe_slice sl_str (pe_ix ix_X (pv 4) pe_int (fun _ _ => rfl)) po_none (po_some pe_int)) pe_str (by rfl)) (pw_and1 (pt_cmpR op_inS1 (pe_ix ix_str (pv 3) (pe_op o_sub (pe_callB c_lenS (by rfl) T.b_len (by decide +kernel) (pa_cons (pv 3) pa_nil)) pe_int) (fun _ _ => rfl)) pe_str (by rfl))))))) (pss_one (ps_set (i := 5) sc__law_spaced.nd rfl (Or.inl rfl) pe_int)) pss_nil)
    (pss_one (ps_set (i := 3) sc__law_spaced.nd rfl (Or.inl rfl) (pe_op op_addStr (pe_op op_addStr (pv 3) (pe_op op_mulS0 pe_str (pv 5))) (pe_ix ix_X (pv 4) pe_int (fun _ _ => rfl)))))))))
    (pss_one (ps_ret (pv 3)))))

def t_law (K : PySem.W.Frag) (sp__law_numbers_ : Sp) (sp__law_parsed_ : Sp) (sp__law_print_ : Sp) (sp__law_so_ : Sp) (sp__law_spaced_ : Sp) (sp__law_statement_ : Sp) (sp__law_take_ : Sp) (sp_parse_ : Sp) : TS := (tSeq (tAsg (tCallO sp__law_numbers_ (tCons (tVar 0) tNil)) (gName 1))
    (tSeq (tAsg (tLst (tCons (tC (.int 0)) tNil)) (gName 2))
    (tSeq (tFor (iRng1 (tCons (tC (.int 4)) tNil)) (gName 3) (tSeq (tAsg (tCallO sp__law_statement_ (tCons (tVar 1) (tCons (tVar 2) tNil))) (gName 4))
    (tSeq (tAsg (tCallO sp__law_spaced_ (tCons (tVar 1) (tCons (tVar 2) (tCons (tCallO sp__law_print_ (tCons (tVar 4) tNil)) tNil)))) (gName 5))
    (tSeq (tIfS (tOr (tNot (tB (tCallO sp__law_so_ (tCons (tCallO sp__law_parsed_ (tCons (tVar 5) tNil)) (tCons (tVar 4) tNil))))) (tNot (tB (tCallO sp__law_so_ (tCons (tCallO sp_parse_ (tCons (tVar 5) tNil)) (tCons (tVar 4) tNil)))))) (tRet (tC (.bl false))) tNext)
    (tIfS (tNot (tB (tCallO sp__law_so_ (tCons (tCallO sp_parse_ (tCons (tOp rAddStr (tOp rAddStr (tC (.str "   ")) (tCallO sp__law_print_ (tCons (tVar 4) tNil))) (tOp rMulS0 (tC (.str " ")) (tCallO sp__law_take_ (tCons (tVar 1) (tCons (tVar 2) (tCons (tC (.int 5)) tNil)))))) tNil)) (tCons (tVar 4) tNil))))) (tRet (tC (.bl false))) tNext)))))
    (tRet (tC (.bl true))))))
theorem d_law {sp__law_numbers_ : Sp} {sp__law_parsed_ : Sp} {sp__law_print_ : Sp} {sp__law_so_ : Sp} {sp__law_spaced_ : Sp} {sp__law_statement_ : Sp} {sp__law_take_ : Sp} {sp_parse_ : Sp} {E : XK} {f : Addr} {A : Around} {outer : List Env} {s : Shared} {H : Hp} {cdv : Value} (hr : Room 12 (A.deeper (PyProof.Rows.envOfC "law" (defScope s_law) s.heap.objs.size f cdv))) (T : Txt K mg w D_READERS D_WORDS V_read_box V_read_condition V_read_conditional V_read_drop V_read_during V_read_first V_read_list V_read_nearest V_read_nothing V_read_number V_read_pair V_read_put V_read_skyline V_read_turn C_Reader tk_ALL tk_MOST_DIGITS) (O__law_numbers : Ok P w K mg base 1 "_law_numbers" ["script"] (sp__law_numbers_)) (O__law_parsed : Ok P w K mg base 5 "_law_parsed" ["text"] (sp__law_parsed_)) (O__law_print : Ok P w K mg base 3 "_law_print" ["told"] (sp__law_print_)) (O__law_so : Ok P w K mg base 6 "_law_so" ["found", "meant"] (sp__law_so_)) (O__law_spaced : Ok P w K mg base 3 "_law_spaced" ["row", "spot", "text"] (sp__law_spaced_)) (O__law_statement : Ok P w K mg base 6 "_law_statement" ["row", "spot"] (sp__law_statement_)) (O__law_take : Ok P w K mg base 2 "_law_take" ["row", "spot", "limit"] (sp__law_take_)) (O_parse : Ok P w K mg base 12 "parse" ["text"] (sp_parse_)) :
    PSs (cxOf CX0 P w K mg base N_law "law" (defScope s_law) f cdv A outer s H E).nox (defBody s_law) (t_law K sp__law_numbers_ sp__law_parsed_ sp__law_print_ sp__law_so_ sp__law_spaced_ sp__law_statement_ sp__law_take_ sp_parse_) :=
  (pss_cons (ps_set (i := 1) sc_law.nd rfl (Or.inl rfl) (pe_cO O__law_numbers (hr.mono (by decide)) rfl (pa_cons (pv 0) pa_nil)))
    (pss_cons (ps_set (i := 2) sc_law.nd rfl (Or.inl rfl) (pe_lst (pa_cons pe_int pa_nil)))
    (pss_cons (ps_for PassesOwn.never rfl (pi_range1 (by rfl) T.b_range (pa_cons pe_int pa_nil)) (pg_name (i := 3) sc_law.nd rfl (Or.inl rfl)) (pss_cons (ps_set (i := 4) sc_law.nd rfl (Or.inl rfl) (pe_cO O__law_statement (hr.mono (by decide)) rfl (pa_cons (pv 1) (pa_cons (pv 2) pa_nil))))
    (pss_cons (ps_set (i := 5) sc_law.nd rfl (Or.inl rfl) (pe_cO O__law_spaced (hr.mono (by decide)) rfl (pa_cons (pv 1) (pa_cons (pv 2) (pa_cons (pe_cO O__law_print (hr.mono (by decide)) rfl (pa_cons (pv 4) pa_nil)) pa_nil)))))
    (pss_cons (ps_if (PW.pt (pw_or (pt_not (pt_val (pe_cO O__law_so (hr.mono (by decide)) rfl (pa_cons (pe_cO O__law_parsed (hr.mono (by decide)) rfl (pa_cons (pv 5) pa_nil)) (pa_cons (pv 4) pa_nil))))) (pw_or1 (pt_not (pt_val (pe_cO O__law_so (hr.mono (by decide)) rfl (pa_cons (pe_cO O_parse (hr.mono (by decide)) rfl (pa_cons (pv 5) pa_nil)) (pa_cons (pv 4) pa_nil)))))))) (pss_one (ps_ret pe_bl)) pss_nil)
    (pss_one (ps_if (pt_not (pt_val (pe_cO O__law_so (hr.mono (by decide)) rfl (pa_cons (pe_cO O_parse (hr.mono (by decide)) rfl (pa_cons (pe_op op_addStr (pe_op op_addStr pe_str (pe_cO O__law_print (hr.mono (by decide)) rfl (pa_cons (pv 4) pa_nil))) (pe_op op_mulS0 pe_str (pe_cO O__law_take (hr.mono (by decide)) rfl (pa_cons (pv 1) (pa_cons (pv 2) (pa_cons pe_int pa_nil)))))) pa_nil)) (pa_cons (pv 4) pa_nil))))) (pss_one (ps_ret pe_bl)) pss_nil))))))
    (pss_one (ps_ret pe_bl)))))


/-! ### the law's own draws -/
def sp__law_draw : Sp := fun vs H Q _ => ∃ (p : Addr) (rs : List Int) (at_ lim : Int), vs = [.ref p, .int at_, .int lim] ∧ H p = some (.lst (rs.map V.int)) ∧ rs ≠ [] ∧ 0 ≤ at_ ∧ 0 < lim ∧ ∀ r, 0 ≤ r → r < lim → Q (.int r) H
theorem ok__law_draw {f : Addr} {fd : FuncData} (F : Fun K "_law_draw" "_law_draw" s__law_draw f fd) (T : Txt K mg w D_READERS D_WORDS V_read_box V_read_condition V_read_conditional V_read_drop V_read_during V_read_first V_read_list V_read_nearest V_read_nothing V_read_number V_read_pair V_read_put V_read_skyline V_read_turn C_Reader tk_ALL tk_MOST_DIGITS)  : FnOk P w K mg base CX0 1 f fd ["row", "at", "limit"] sp__law_draw := by
  refine F.ok sc__law_draw (fun vs H Q E h => ?_) (fun cdv A outer s H vs Q E hr h => ?_)
  · obtain ⟨p, rs, a, l, rfl, _⟩ := h
    rfl
  · obtain ⟨p, rs, a, l, rfl, hp, hne, ha, hl, k⟩ := h
    refine ⟨_, d__law_draw hr T , ?_⟩
    unfold t__law_draw
    have hpos : 0 < rs.length := List.length_pos_iff.mpr hne
    have hm : (rs.map V.int).length = rs.length := List.length_map ..
    refine x_start (σ' := [some (.ref p), some (.int a), some (.int l), none]) rfl ?_
    walk_at "sts"
    refine x_lenL hp ?_
    walk_at "sts"
    rw [hm]
    refine x_dec (fun h1 => ?_) (fun h1 => ?_)
    · walk_at "sts"
      have hj : a.toNat < rs.length := by omega
      refine x_ixL (v := .int rs[a.toNat]) hp (at_of (j := a.toNat) (by omega) (ints_at (List.getElem?_eq_getElem hj))) ?_
      walk_at "sts"
      refine x_mod hl ?_
      exact k _ (Int.emod_nonneg _ (by omega)) (Int.emod_lt_of_pos _ hl)
    · walk_at "sts"
      refine x_lenL hp ?_
      rw [hm]
      refine x_mod (by omega) ?_
      have h0 : 0 ≤ a % (rs.length : Int) := Int.emod_nonneg _ (by omega)
      have h2 : a % (rs.length : Int) < rs.length := Int.emod_lt_of_pos _ (by omega)
      have hj : (a % (rs.length : Int)).toNat < rs.length := by omega
      refine x_ixL (v := .int rs[(a % (rs.length : Int)).toNat]) hp (at_of (j := (a % (rs.length : Int)).toNat) (by omega) (ints_at (List.getElem?_eq_getElem hj))) ?_
      walk_at "sts"
      refine x_mulI (cmulR (by decide) (by decide)) ?_
      walk_at "sts"
      refine x_mulI (cmulR (by decide) (by decide)) ?_
      walk_at "sts"
      refine x_mod (by decide) ?_
      walk_at "sts"
      refine x_mulI (cmulR (by decide) (by decide)) ?_
      walk_at "sts"
      refine x_mod (by decide) ?_
      walk_at "sts"
      refine x_mod hl ?_
      exact k _ (Int.emod_nonneg _ (by omega)) (Int.emod_lt_of_pos _ hl)


theorem x_draw {p : Addr} {rs : List Int} {a l : Int} {H : Hp} {Q : VK} {E : XK} (hp : H p = some (.lst (rs.map V.int))) (hne : rs ≠ []) (ha : 0 ≤ a) (hl : 0 < l) (q : ∀ r, 0 ≤ r → r < l → Q (.int r) H) : sp__law_draw [.ref p, .int a, .int l] H Q E :=
  ⟨p, rs, a, l, rfl, hp, hne, ha, hl, q⟩
def sp__law_take : Sp := fun vs H Q _ => ∃ (row sp : Addr) (lim : Int), vs = [.ref row, .ref sp, .int lim] ∧ Wd H row sp ∧ 0 < lim ∧ ∀ r H', 0 ≤ r → r < lim → Kp [sp] H H' → Wd H' row sp → Q (.int r) H'
theorem x_take {row sp : Addr} {l : Int} {H : Hp} {Q : VK} {E : XK} (W : Wd H row sp) (hl : 0 < l) (q : ∀ r H', 0 ≤ r → r < l → Kp [sp] H H' → Wd H' row sp → Q (.int r) H') : sp__law_take [.ref row, .ref sp, .int l] H Q E :=
  ⟨row, sp, l, rfl, W, hl, q⟩
theorem ok__law_take {f : Addr} {fd : FuncData} (F : Fun K "_law_take" "_law_take" s__law_take f fd) (T : Txt K mg w D_READERS D_WORDS V_read_box V_read_condition V_read_conditional V_read_drop V_read_during V_read_first V_read_list V_read_nearest V_read_nothing V_read_number V_read_pair V_read_put V_read_skyline V_read_turn C_Reader tk_ALL tk_MOST_DIGITS) (O__law_draw : Ok P w K mg base 1 "_law_draw" ["row", "at", "limit"] (sp__law_draw)) : FnOk P w K mg base CX0 2 f fd ["row", "spot", "limit"] sp__law_take := by
  refine F.ok sc__law_take (fun vs H Q E h => ?_) (fun cdv A outer s H vs Q E hr h => ?_)
  · obtain ⟨p, rs, a, rfl, _⟩ := h
    rfl
  · obtain ⟨row, sp, l, rfl, W, hl, k⟩ := h
    obtain ⟨⟨s, rs, h0, hs, hrow, hne, hlen⟩, ne⟩ := id W
    refine ⟨_, d__law_take hr T O__law_draw, ?_⟩
    unfold t__law_take
    refine x_start (σ' := [some (.ref row), some (.ref sp), some (.int l)]) rfl ?_
    walk_at "sts"
    refine x_ixL hs (v := .int s) (by rfl) ?_
    walk_at "sts"
    refine x_setL hs (m := 0) (by rfl) ?_
    walk_at "sts"
    refine x_ixL upd_same (v := .int (s + 1)) (by rfl) ?_
    walk_at "sts"
    refine x_draw (upd_get' ne hrow) hne (by omega) hl fun r r0 r1 => ?_
    exact k r _ r0 r1 (Kp.refl.mut (List.mem_singleton.mpr rfl)) ⟨⟨s + 1, rs, by omega, upd_same, upd_get' ne hrow, hne, hlen⟩, ne⟩
def sp__law_wide : Sp := fun vs H Q _ => ∃ (row sp : Addr) (lim : Int), vs = [.ref row, .ref sp, .int lim] ∧ Wd H row sp ∧ 0 < lim ∧ ∀ r H', 0 ≤ r → r < lim → Kp [sp] H H' → Wd H' row sp → Q (.int r) H'
theorem x_wide {row sp : Addr} {l : Int} {H : Hp} {Q : VK} {E : XK} (W : Wd H row sp) (hl : 0 < l) (q : ∀ r H', 0 ≤ r → r < l → Kp [sp] H H' → Wd H' row sp → Q (.int r) H') : sp__law_wide [.ref row, .ref sp, .int l] H Q E :=
  ⟨row, sp, l, rfl, W, hl, q⟩
theorem ok__law_wide {f : Addr} {fd : FuncData} (F : Fun K "_law_wide" "_law_wide" s__law_wide f fd) (T : Txt K mg w D_READERS D_WORDS V_read_box V_read_condition V_read_conditional V_read_drop V_read_during V_read_first V_read_list V_read_nearest V_read_nothing V_read_number V_read_pair V_read_put V_read_skyline V_read_turn C_Reader tk_ALL tk_MOST_DIGITS) (O__law_take : Ok P w K mg base 2 "_law_take" ["row", "spot", "limit"] (sp__law_take)) : FnOk P w K mg base CX0 3 f fd ["row", "spot", "limit"] sp__law_wide := by
  refine F.ok sc__law_wide (fun vs H Q E h => ?_) (fun cdv A outer s H vs Q E hr h => ?_)
  · obtain ⟨p, rs, a, rfl, _⟩ := h
    rfl
  · obtain ⟨row, sp, l, rfl, W, hl, k⟩ := h
    refine ⟨_, d__law_wide hr T O__law_take, ?_⟩
    unfold t__law_wide
    refine x_start (σ' := [some (.ref row), some (.ref sp), some (.int l), none, none, none]) rfl ?_
    walk_at "sts"
    refine x_take W (by decide) fun r1 H1 a1 b1 k1 W1 => ?_
    walk_at "sts"
    refine x_take W1 (by decide) fun r2 H2 a2 b2 k2 W2 => ?_
    walk_at "sts"
    refine x_take W2 (by decide) fun r3 H3 a3 b3 k3 W3 => ?_
    walk_at "sts"
    refine x_mulI (cmulR (by decide) (by decide)) ?_
    walk_at "sts"
    refine x_mulI (cmulR (by decide) (by decide)) ?_
    walk_at "sts"
    refine x_mod hl ?_
    exact k _ _ (Int.emod_nonneg _ (by omega)) (Int.emod_lt_of_pos _ hl) ((k1.trans k2).trans k3) W3
theorem cut_map (ns : List Int) (lo hi : Option Int) : ∃ ms : List Int, cutV (ns.map V.int) lo hi = ms.map V.int ∧ ms.length ≤ ns.length := by
  refine ⟨(ns.drop (HT.sIx (ns.map V.int).length 0 lo)).take (HT.sIx (ns.map V.int).length (ns.map V.int).length hi - HT.sIx (ns.map V.int).length 0 lo), ?_, ?_⟩
  · unfold cutV
    rw [List.map_take, List.map_drop]
  · rw [List.length_take, List.length_drop]
    omega
def sp__law_numbers (K : PySem.W.Frag) : Sp := fun vs H Q _ => ∃ (a : Addr) (ns : List Int), vs = [.ref a] ∧ SqL K H a (ns.map V.int) ∧ ns.length ≤ 63 ∧ ∀ p H' (rs : List Int), Same H H' → H p = none → H' p = some (.lst (rs.map V.int)) → rs ≠ [] → rs.length ≤ 4000 → Q (.ref p) H'
theorem ok__law_numbers {f : Addr} {fd : FuncData} (F : Fun K "_law_numbers" "_law_numbers" s__law_numbers f fd) (T : Txt K mg w D_READERS D_WORDS V_read_box V_read_condition V_read_conditional V_read_drop V_read_during V_read_first V_read_list V_read_nearest V_read_nothing V_read_number V_read_pair V_read_put V_read_skyline V_read_turn C_Reader tk_ALL tk_MOST_DIGITS)  : FnOk P w K mg base CX0 1 f fd ["script"] (sp__law_numbers K) := by
  refine F.ok sc__law_numbers (fun vs H Q E h => ?_) (fun cdv A outer s H vs Q E hr h => ?_)
  · obtain ⟨a, ns, rfl, _⟩ := h
    rfl
  · obtain ⟨a, ns, rfl, ha, hl, k⟩ := h
    refine ⟨_, d__law_numbers hr T , ?_⟩
    unfold t__law_numbers
    refine x_start (σ' := [some (.ref a), none, none, none, none, none]) rfl ?_
    walk_at "sts"
    refine x_mkl rfl (by decide) fun p hp => ?_
    walk_at "sts"
    have s1 : Same H (upd H p (.lst [])) := Same.new (Same.refl H) hp
    refine x_slL (s1.seq ha) fun c hc => ?_
    obtain ⟨ms, em, lm⟩ := cut_map ns none (some 63)
    rw [em]
    have pc : p ≠ c := Ne.symm (new_ne hc upd_same)
    have s2 : Same H (upd (upd H p (.lst [])) c (.lst (ms.map V.int))) := Same.new s1 hc
    have hc0 : H c = none := Same.none s1 hc
    refine x_loopL (xs := ms.map V.int) (SqL.of upd_same) (fun i σ H' => ∃ (rs : List Int) (x2 x3 x4 x5 : Option V), σ = [some (.ref a), some (.ref p), x2, x3, x4, x5] ∧ Same H H' ∧ H' p = some (.lst (rs.map V.int)) ∧ rs.length ≤ 60 * i ∧ H' c = some (.lst (ms.map V.int))) ?_ ?_ ?_ ?_
    · exact ⟨[], none, none, none, none, rfl, s2, upd_get hc upd_same, by simp, upd_same⟩
    · rintro i σ H' _ ⟨rs, x2, x3, x4, x5, rfl, h1, h2, h3, h4⟩
      exact SqL.of h4
    · rintro i x σ H' hx ⟨rs, x2, x3, x4, x5, rfl, h1, h2, h3, h4⟩
      obtain ⟨z, hz, rfl⟩ : ∃ z, ms[i]? = some z ∧ x = V.int z := by
        rw [List.getElem?_map] at hx
        cases e : ms[i]? with
        | none => rw [e] at hx; cases hx
        | some z => rw [e] at hx; exact ⟨z, rfl, (Option.some.inj hx).symm⟩
      have hi : i < 63 := by
        have := (List.getElem?_eq_some_iff.mp hz).1
        omega
      walk_at "sts"
      refine x_pow (by decide) ?_
      walk_at "sts"
      refine x_dec (fun g1 => ?_) (fun g1 => ?_)
      · walk_at "sts"
        refine x_rng 60 (by decide) rfl ?_
        refine x_loopR (fun j σ H2 => ∃ (rs : List Int) (l : Int) (x4 x5 : Option V), σ = [some (.ref a), some (.ref p), some (.int z), some (.int l), x4, x5] ∧ Same H H2 ∧ H2 p = some (.lst (rs.map V.int)) ∧ rs.length ≤ 60 * i + j ∧ H2 c = some (.lst (ms.map V.int))) ?_ ?_ ?_
        · exact ⟨rs, z, x4, x5, rfl, h1, h2, by omega, h4⟩
        · rintro j σ H2 hj ⟨rs, l, x4, x5, rfl, h1, h2, h3, h4⟩
          walk_at "sts"
          refine x_dec (fun g2 => ?_) (fun g2 => ?_)
          · walk_at "sts"
            exact ⟨rs, _, _, _, _, rfl, h1, h2, by omega, h4⟩
          · walk_at "sts"
            refine x_bmL h2 ?_
            walk_at "sts"
            refine x_mod (by decide) ?_
            walk_at "sts"
            refine x_app h2 (szl (by rw [List.length_map]; omega)) ?_
            walk_at "sts"
            refine x_fdv (by decide) ?_
            walk_at "sts"
            rw [map_snoc]
            exact ⟨_, _, _, _, rfl, Same.own h1 hp, upd_same, by simp; omega, upd_get' (Ne.symm pc) h4⟩
        · rintro σ H2 ⟨rs, l, x4, x5, rfl, h1, h2, h3, h4⟩
          exact ⟨rs, _, _, _, _, rfl, h1, h2, by omega, h4⟩
      · walk_at "sts"
        refine x_rng 4 (by decide) rfl ?_
        refine x_loopR (fun j σ H2 => ∃ (rs : List Int) (x3 x4 x5 : Option V), σ = [some (.ref a), some (.ref p), some (.int z), x3, x4, x5] ∧ Same H H2 ∧ H2 p = some (.lst (rs.map V.int)) ∧ rs.length ≤ 60 * i + j ∧ H2 c = some (.lst (ms.map V.int))) ?_ ?_ ?_
        · exact ⟨rs, x3, x4, x5, rfl, h1, h2, by omega, h4⟩
        · rintro j σ H2 hj ⟨rs, x3, x4, x5, rfl, h1, h2, h3, h4⟩
          walk_at "sts"
          refine x_mulI (cmulR (by decide) (by decide)) ?_
          walk_at "sts"
          refine x_mulI (cmulR (by decide) (by decide)) ?_
          walk_at "sts"
          refine x_mod (by decide) ?_
          walk_at "sts"
          refine x_bmL h2 ?_
          walk_at "sts"
          refine x_mulI (cmulR (by decide) (by decide)) ?_
          walk_at "sts"
          refine x_mod (by decide) ?_
          walk_at "sts"
          refine x_app h2 (szl (by rw [List.length_map]; omega)) ?_
          walk_at "sts"
          rw [map_snoc]
          exact ⟨_, _, _, _, rfl, Same.own h1 hp, upd_same, by simp; omega, upd_get' (Ne.symm pc) h4⟩
        · rintro σ H2 ⟨rs, x3, x4, x5, rfl, h1, h2, h3, h4⟩
          exact ⟨rs, _, _, _, _, rfl, h1, h2, by omega, h4⟩
    · rintro σ H' ⟨rs, x2, x3, x4, x5, rfl, h1, h2, h3, h4⟩
      rw [List.length_map] at h3
      refine x_cut (fun σ2 H2 => ∃ (rs : List Int), σ2 = [some (.ref a), some (.ref p), x2, x3, x4, x5] ∧ Same H H2 ∧ H2 p = some (.lst (rs.map V.int)) ∧ rs ≠ [] ∧ rs.length ≤ 4000) ?_ ?_
      · walk_at "sts"
        refine x_lenL h2 ?_
        walk_at "sts"
        rw [List.length_map]
        refine x_dec (fun g => ?_) (fun g => ?_)
        · have e : rs = [] := List.length_eq_zero_iff.mp (by omega)
          subst e
          walk_at "sts"
          refine x_bmL h2 ?_
          walk_at "sts"
          refine x_app h2 (szl (by simp)) ?_
          walk_at "sts"
          exact ⟨[0], rfl, Same.own h1 hp, upd_same, by simp, by simp⟩
        · walk_at "sts"
          exact ⟨rs, rfl, h1, h2, fun z => g (by rw [z]; rfl), by omega⟩
      · rintro σ2 H2 ⟨rs2, rfl, g1, g2, g3, g4⟩
        walk_at "sts"
        exact k p _ rs2 g1 hp g2 g3 g4


/-! ### so -/
theorem fn_void {f : Addr} {fd : FuncData} {ps : List Str} {sp : Sp} {k : Nat} (h : ∀ vs H Q E, ¬ sp vs H Q E) : FnOk P w K mg base CX0 k f fd ps sp :=
  ⟨fun vs H Q E z => (h vs H Q E z).elim, fun A outer s H args us vs Q E hr e0 hb r z => (h vs H Q E z).elim⟩
def sp__law_so (n : Nat) : Sp := fun vs H Q _ => ∃ (sp : List Addr) (v u : V) (d : Da), vs = [v, u] ∧ Rp sp H v d ∧ Rp sp H u d ∧ Dn n d ∧ Q (.bl true) H
theorem x_so {n : Nat} {H : Hp} {Q : VK} {E : XK} {sp : List Addr} {v u : V} {d : Da} (h1 : Rp sp H v d) (h2 : Rp sp H u d) (hn : Dn n d) (q : Q (.bl true) H) : sp__law_so n [v, u] H Q E := ⟨sp, v, u, d, rfl, h1, h2, hn, q⟩
theorem ok__law_so {f : Addr} {fd : FuncData} (F : Fun K "_law_so" "_law_so" s__law_so f fd) (T : Txt K mg w D_READERS D_WORDS V_read_box V_read_condition V_read_conditional V_read_drop V_read_during V_read_first V_read_list V_read_nearest V_read_nothing V_read_number V_read_pair V_read_put V_read_skyline V_read_turn C_Reader tk_ALL tk_MOST_DIGITS) (n : Nat) (O__law_so : Ok P w K mg base n "_law_so" ["found", "meant"] (sp__law_so n)) : FnOk P w K mg base CX0 (n + 1) f fd ["found", "meant"] (sp__law_so (n + 1)) := by
  refine F.ok sc__law_so (fun vs H Q E h => ?_) (fun cdv A outer s H vs Q E hr h => ?_)
  · obtain ⟨sp, v, u, d, rfl, _⟩ := h
    rfl
  · obtain ⟨sp, v, u, d, rfl, h1, h2, hn, k⟩ := h
    refine ⟨_, d__law_so hr T O__law_so, ?_⟩
    unfold t__law_so
    refine x_start (σ' := [some v, some u, none]) rfl ?_
    walk_at "sts"
    cases hn with
    | non =>
      cases h1.nonI; cases h2.nonI
      refine x_dec (fun _ => ?_) (fun z => absurd rfl z)
      walk_at "sts"
      rw [decide_eq_true rfl]
      exact k
    | bl b =>
      cases h1.blI; cases h2.blI
      refine x_dec (fun z => nomatch z) (fun _ => ?_)
      walk_at "sts"
      refine x_isaB h2 (by decide) (b := false) (by walk_at "isa") ?_
      walk_at "sts"
      refine x_isaB h2 (by decide) (b := true) (by walk_at "isa") ?_
      walk_at "sts"
      refine x_isaB h2 (by decide) (b := true) (by walk_at "isa") ?_
      walk_at "sts"
      refine x_isaB h1 (by decide) (b := true) (by walk_at "isa") ?_
      walk_at "sts"
      exact x_eqR rfl k
    | int i =>
      cases h1.intI; cases h2.intI
      refine x_dec (fun z => nomatch z) (fun _ => ?_)
      walk_at "sts"
      refine x_isaB h2 (by decide) (b := false) (by walk_at "isa") ?_
      walk_at "sts"
      refine x_isaB h2 (by decide) (b := false) (by walk_at "isa") ?_
      walk_at "sts"
      refine x_isaB h1 (by decide) (b := false) (by walk_at "isa") ?_
      walk_at "sts"
      refine x_isaB h2 (by decide) (b := true) (by walk_at "isa") ?_
      walk_at "sts"
      refine x_isaB h1 (by decide) (b := true) (by walk_at "isa") ?_
      walk_at "st"
      walk_at "st"
      walk_at "st"
      walk_at "st"
      walk_at "st"
      exact x_eqR rfl k
    | str x =>
      cases h1.strI; cases h2.strI
      refine x_dec (fun z => nomatch z) (fun _ => ?_)
      walk_at "sts"
      refine x_isaB h2 (by decide) (b := false) (by walk_at "isa") ?_
      walk_at "sts"
      refine x_isaB h2 (by decide) (b := false) (by walk_at "isa") ?_
      walk_at "sts"
      refine x_isaB h1 (by decide) (b := false) (by walk_at "isa") ?_
      walk_at "sts"
      refine x_isaB h2 (by decide) (b := false) (by walk_at "isa") ?_
      walk_at "sts"
      refine x_isaB h2 (by decide) (b := true) (by walk_at "isa") ?_
      walk_at "sts"
      refine x_isaB h1 (by decide) (b := true) (by walk_at "isa") ?_
      walk_at "sts"
      exact x_eqR rfl k
    | @tup _ ds hb hd =>
      obtain ⟨a1, xs, rfl, n1, e1, r1⟩ := h1.tupI
      obtain ⟨a2, ys, rfl, n2, e2, r2⟩ := h2.tupI
      refine x_dec (fun z => nomatch z) (fun _ => ?_)
      walk_at "sts"
      refine x_isaB h2 (by decide) (b := true) (by walk_at "isa") ?_
      walk_at "sts"
      refine x_isaB h1 (by decide) (b := true) (by walk_at "isa") ?_
      walk_at "sts"
      refine x_lenT e1 ?_
      walk_at "sts"
      refine x_lenT e2 ?_
      walk_at "sts"
      rw [r1.1, r2.1]
      refine x_ndec (fun z => absurd rfl z) (fun _ => ?_)
      walk_at "sts"
      refine x_lenT e2 ?_
      walk_at "sts"
      rw [r2.1]
      · refine x_rng ds.length (Nat.le_trans hb (by decide)) rfl ?_
        refine x_loopR (fun i σ H' => ∃ x, σ = [some (.ref a1), some (.ref a2), x] ∧ H' = H) ⟨none, rfl, rfl⟩ ?_ ?_
        · rintro i σ H' hi ⟨x, rfl, rfl⟩
          obtain ⟨y1, g1, p1⟩ := rps_get r1 (List.getElem?_eq_getElem hi)
          obtain ⟨y2, g2, p2⟩ := rps_get r2 (List.getElem?_eq_getElem hi)
          walk_at "sts"
          refine x_ixT e1 (at_of (j := i) rfl g1) ?_
          walk_at "sts"
          refine x_ixT e2 (at_of (j := i) rfl g2) ?_
          walk_at "sts"
          refine x_so p1 p2 (hd _ (List.getElem_mem hi)) ?_
          walk_at "sts"
          exact ⟨_, rfl, rfl⟩
        · rintro σ H' ⟨x, rfl, rfl⟩
          walk_at "sts"
          exact k
theorem rok__law_so {f : Addr} {fd : FuncData} (F : Fun K "_law_so" "_law_so" s__law_so f fd) (T : Txt K mg w D_READERS D_WORDS V_read_box V_read_condition V_read_conditional V_read_drop V_read_during V_read_first V_read_list V_read_nearest V_read_nothing V_read_number V_read_pair V_read_put V_read_skyline V_read_turn C_Reader tk_ALL tk_MOST_DIGITS) (m : mg "_law_so" = some (.ref f)) (b : Binds K fd ["found", "meant"] []) : ∀ n, Ok P w K mg base n "_law_so" ["found", "meant"] (sp__law_so n)
  | 0 => ⟨f, fd, fn_void fun vs H Q E ⟨sp, v, u, d, _, _, _, hn, _⟩ => (nomatch hn), m, F.kp, b⟩
  | n + 1 => ⟨f, fd, ok__law_so F T n (rok__law_so F T m b n), m, F.kp, b⟩


/-! ### whole numbers -/
def Da.isInt : Da → Bool
  | .int _ => true
  | _ => false
def sp_is_integer : Sp := fun vs H Q _ => ∃ (ex : List Addr) (v : V) (d : Da), vs = [v] ∧ Rp ex H v d ∧ Q (.bl d.isInt) H

def Da.isSeq : Da → Bool
  | .tup _ => true
  | .lst _ => true
  | _ => false
def sp_is_sequence : Sp := fun vs H Q _ => ∃ (ex : List Addr) (v : V) (d : Da), vs = [v] ∧ Rp ex H v d ∧ ∀ H', Same H H' → Q (.bl d.isSeq) H'

/-! ### statements' parts told apart -/
inductive Sq : Nat → Da → Prop where
  | non {n} : Sq (n + 1) .non
  | bl {n} (b : Bool) : Sq (n + 1) (.bl b)
  | int {n} (i : Int) : Sq (n + 1) (.int i)
  | str {n} (s : Str) : Sq (n + 1) (.str s)
  | tup {n} {l : List Da} (hl : l.length ≤ 1000) (h : ∀ d, d ∈ l → Sq n d) : Sq (n + 1) (.tup l)
  | lst {n} {l : List Da} (hl : l.length ≤ 1000) (h : ∀ d, d ∈ l → Sq n d) : Sq (n + 1) (.lst l)
theorem Sq.of {n : Nat} {d : Da} {ds : List Da} (h : Sq (n + 1) d) (hs : d.seq ds) : ds.length ≤ 1000 ∧ ∀ e, e ∈ ds → Sq n e := by
  rcases hs with rfl | rfl
  · cases h with | tup hl h => exact ⟨hl, h⟩
  · cases h with | lst hl h => exact ⟨hl, h⟩
theorem Sq.mono {n m : Nat} {d : Da} (h : Sq n d) : n ≤ m → Sq m d := by
  induction h generalizing m with
  | non => intro hm; obtain ⟨k, rfl⟩ : ∃ k, m = k + 1 := ⟨m - 1, by omega⟩; exact .non
  | bl b => intro hm; obtain ⟨k, rfl⟩ : ∃ k, m = k + 1 := ⟨m - 1, by omega⟩; exact .bl b
  | int i => intro hm; obtain ⟨k, rfl⟩ : ∃ k, m = k + 1 := ⟨m - 1, by omega⟩; exact .int i
  | str s => intro hm; obtain ⟨k, rfl⟩ : ∃ k, m = k + 1 := ⟨m - 1, by omega⟩; exact .str s
  | tup hl _ ih => intro hm; obtain ⟨k, rfl⟩ : ∃ k, m = k + 1 := ⟨m - 1, by omega⟩; exact .tup hl fun d hd => ih d hd (by omega)
  | lst hl _ ih => intro hm; obtain ⟨k, rfl⟩ : ∃ k, m = k + 1 := ⟨m - 1, by omega⟩; exact .lst hl fun d hd => ih d hd (by omega)
def Da.len : Da → Nat
  | .tup l => l.length
  | .lst l => l.length
  | _ => 0
def whD : Da → Bool
  | .int i => decide (-999999999999 ≤ i) && decide (i ≤ 999999999999)
  | _ => false
def rwL (l : List Da) : Bool := decide ((l.length : Int) > 0) && (l.map whD).all id
def rwD : Da → Bool
  | .tup l => rwL l
  | .lst l => rwL l
  | _ => false
def rnD : Da → Bool
  | .non => true
  | d => rwD d
def prD (d : Da) : Bool := rwD d && decide ((d.len : Int) = 2)
def arL (l : List Da) : Bool := !decide ((l.length : Int) = 0) && (l.map prD).all id
def arD : Da → Bool
  | .tup l => arL l
  | .lst l => arL l
  | _ => false
def wds : List Str := ["meets", "inside", "covers"]
def wdD : Da → Bool
  | .str z => decide (z ∈ wds)
  | _ => false
def dmL : List Da → Bool
  | [w, b] => wdD w && arD b
  | _ => false
def dmD : Da → Bool
  | .tup l => dmL l
  | .lst l => dmL l
  | _ => false
def dsL (l : List Da) : Bool := (l.map dmD).all id
def dsD : Da → Bool
  | .tup l => dsL l
  | .lst l => dsL l
  | _ => false
theorem Da.cs_is {d : Da} {ds : List Da} (h : d.seq ds) : d.isSeq = true ∧ rwD d = rwL ds ∧ rnD d = rwL ds ∧ arD d = arL ds ∧ dmD d = dmL ds ∧ dsD d = dsL ds ∧ d.len = ds.length := by
  rcases h with rfl | rfl <;> exact ⟨rfl, rfl, rfl, rfl, rfl, rfl, rfl⟩
theorem Da.cs_or (d : Da) : (∃ ds, d.seq ds) ∨ (d.isSeq = false ∧ rwD d = false ∧ arD d = false ∧ dmD d = false ∧ dsD d = false) := by
  cases d with
  | tup l => exact .inl ⟨l, .inl rfl⟩
  | lst l => exact .inl ⟨l, .inr rfl⟩
  | _ => exact .inr ⟨rfl, rfl, rfl, rfl, rfl⟩
theorem rwD_seq {d : Da} (h : rwD d = true) : ∃ ds, d.seq ds := by
  rcases d.cs_or with z | ⟨_, z, _⟩
  · exact z
  · rw [z] at h; cases h
def sp_chk (G : Da → Prop) (f : Da → Bool) : Sp := fun vs H Q _ => ∃ (ex : List Addr) (v : V) (d : Da), vs = [v] ∧ Rp ex H v d ∧ G d ∧ ∀ H', Same H H' → Q (.bl (f d)) H'
theorem x_chk {G : Da → Prop} {f : Da → Bool} {ex : List Addr} {v : V} {d : Da} {H : Hp} {Q : VK} {E : XK} (h : Rp ex H v d) (g : G d) (q : ∀ H', Same H H' → Q (.bl (f d)) H') : sp_chk G f [v] H Q E := ⟨ex, v, d, rfl, h, g, q⟩
/-- no row in it is long -/
def Szd (d : Da) : Prop := ∃ n, Sq n d
theorem Szd.of {d : Da} {ds : List Da} (h : Szd d) (hs : d.seq ds) : ds.length ≤ 1000 ∧ ∀ e, e ∈ ds → Szd e := by
  obtain ⟨n, h⟩ := h
  match n, h with
  | 0, h => cases h
  | n + 1, h => exact ⟨(h.of hs).1, fun e he => ⟨n, (h.of hs).2 e he⟩⟩
abbrev Sq2 : Da → Prop := Szd
abbrev Sq3 : Da → Prop := Szd
/-- a pair's first is a text -/
def FcD (d : Da) : Prop := ∀ w b, d.seq [w, b] → ∃ y, w = .str y
def Sq4 (d : Da) : Prop := Szd d ∧ FcD d
def Sq5 (d : Da) : Prop := Szd d ∧ ∀ ds, d.seq ds → ∀ e, e ∈ ds → FcD e
abbrev sp_is_whole : Sp := sp_chk (fun _ => True) whD
abbrev sp_is_row : Sp := sp_chk Sq2 rwD
abbrev sp_is_row_or_none : Sp := sp_chk Sq2 rnD
abbrev sp_is_area : Sp := sp_chk Sq3 arD
abbrev sp_is_demand : Sp := sp_chk Sq4 dmD
abbrev sp_are_demands : Sp := sp_chk Sq5 dsD
theorem x_isseq {ex : List Addr} {v : V} {d : Da} {H : Hp} {Q : VK} {E : XK} (h : Rp ex H v d) (q : ∀ H', Same H H' → Q (.bl d.isSeq) H') : sp_is_sequence [v] H Q E := ⟨ex, v, d, rfl, h, q⟩
theorem x_isint {ex : List Addr} {v : V} {d : Da} {H : Hp} {Q : VK} {E : XK} (h : Rp ex H v d) (q : Q (.bl d.isInt) H) : sp_is_integer [v] H Q E := ⟨ex, v, d, rfl, h, q⟩

/-! ### statements told apart -/
theorem x_slFromS {K : PySem.W.Frag} {H : Hp} {Q : VK} {v : V} {ex : List Addr} {d : Da} {ds : List Da} {k : Nat} {z : Int} (h : Rp ex H v d) (s : d.seq ds) (hz : z = (k : Int)) (L : Live ex H) (q : ∀ v' H' d', Same H H' → Rp ex H' v' d' → d'.seq (ds.drop k) → Q v' H') : rSlX K v (some z) none H Q := by
  rcases s with rfl | rfl
  · exact x_slFrom h hz L fun v' H' s r => q v' H' _ s r (.inl rfl)
  · exact x_slFromL h hz L fun v' H' s r => q v' H' _ s r (.inr rfl)
theorem x_nite {A B : Prop} {b : Bool} (h1 : b = false → A) (h2 : b = true → B) : if (!b) = true then A else B := by
  cases b with
  | false => exact h1 rfl
  | true => exact h2 rfl

def ckF : Nat → Da → Bool
  | 0 => whD
  | 1 => arD
  | 2 => rnD
  | 3 => rwD
  | _ => dsD
def ckG : Nat → Da → Prop
  | 0 => fun _ => True
  | 1 => Szd
  | 2 => Szd
  | 3 => Szd
  | _ => Sq5
def vAt (a b c d e : Addr) : Nat → Addr
  | 0 => a
  | 1 => b
  | 2 => c
  | 3 => d
  | _ => e
def kys : List Str := ["put", "drop", "turn", "select", "count", "nearest", "skyline", "during", "first", "commit", "rollback"]
def offs : List Str := ["", "Put", "commits", "select all"]
def cdOf (z : Str) : List Nat :=
  if z = "put" then [0, 1, 2] else if z = "drop" then [0] else if z = "turn" then [0, 0, 3] else if z = "select" then [4, 0] else if z = "count" then [4, 0] else if z = "nearest" then [0, 1, 0] else if z = "skyline" then [0] else if z = "during" then [1, 0, 0] else if z = "first" then [1, 3, 0, 0] else []
def stL : List Da → Bool
  | .str z :: ps => decide (z ∈ kys) && (decide (ps.length = (cdOf z).length) && (((cdOf z).zip ps).map fun p => ckF p.1 p.2).all id)
  | _ => false
def stD : Da → Bool
  | .tup l => stL l
  | .lst l => stL l
  | _ => false
theorem Da.st_is {d : Da} {ds : List Da} (h : d.seq ds) : stD d = stL ds := by
  rcases h with rfl | rfl <;> rfl
theorem Da.st_or (d : Da) : (∃ ds, d.seq ds) ∨ (d.isSeq = false ∧ stD d = false) := by
  cases d with
  | tup l => exact .inl ⟨l, .inl rfl⟩
  | lst l => exact .inl ⟨l, .inr rfl⟩
  | _ => exact .inr ⟨rfl, rfl⟩
/-- what is asked whether it is a statement -/
def Fq (d : Da) : Prop := Szd d ∧ ∀ e ps, d.seq (e :: ps) → ∀ z, e = .str z → (z ∈ kys ∨ z ∈ offs) ∧ (z = "select" ∨ z = "count" → ∀ c t, ps = [c, t] → ∀ cs, c.seq cs → ∀ e, e ∈ cs → FcD e)
abbrev sp_is_statement : Sp := fun vs H Q _ => ∃ (ex : List Addr) (v : V) (d : Da), vs = [v] ∧ Rp ex H v d ∧ Live ex H ∧ Fq d ∧ ∀ H', Same H H' → Q (.bl (stD d)) H'
theorem cd_sel {z : Str} (h : 4 ∈ cdOf z) : (z = "select" ∨ z = "count") ∧ cdOf z = [4, 0] := by
  unfold cdOf at h
  by_cases e3 : z = "select"
  · subst e3; exact ⟨.inl rfl, by decide +kernel⟩
  by_cases e4 : z = "count"
  · subst e4; exact ⟨.inr rfl, by decide +kernel⟩
  rw [if_neg e3, if_neg e4] at h
  exfalso
  repeat' split at h
  all_goals
    revert h
    decide
theorem cd_five {z : Str} {n : Nat} (h : n ∈ cdOf z) : n = 0 ∨ n = 1 ∨ n = 2 ∨ n = 3 ∨ n = 4 := by
  unfold cdOf at h
  repeat' split at h
  all_goals first
    | (simp only [List.mem_cons, List.not_mem_nil, or_false] at h; omega)
    | exact absurd h List.not_mem_nil

/-! ### texts of rows, of boxes -/
theorem len_addS (a b : Str) : (a ++ b).length = a.length + b.length := Str.length_append a b
abbrev Bx97 := List (Int × Int)
def Nok (ns : List Int) : Prop := ns.length ≤ 100 ∧ ∀ n, n ∈ ns → n.natAbs < 1000000000000
def Bok (b : Bx97) : Prop := b.length ≤ 100 ∧ ∀ p, p ∈ b → p.1.natAbs < 1000000000000 ∧ p.2.natAbs < 1000000000000
def lsT (ns : List Int) : Str := (("[" : Str) ++ Txt.join ", " (ns.map tI)) ++ "]"
def prT (p : Int × Int) : Str := if p.1 = p.2 then tI p.1 else ((Str.empty ++ tI p.1) ++ "..") ++ tI p.2
def bxT (b : Bx97) : Str := (("[" : Str) ++ Txt.join ", " (b.map prT)) ++ "]"
theorem len1 : ("[" : Str).length = 1 ∧ ("]" : Str).length = 1 ∧ (", " : Str).length = 2 ∧ (".." : Str).length = 2 ∧ Str.empty.length = 0 := by decide +kernel
theorem lsJ_len {ns : List Int} (h : Nok ns) : (∀ y, y ∈ ns.map tI → y.length ≤ 13) ∧ (Txt.join ", " (ns.map tI)).length ≤ 1500 := by
  have a : ∀ y, y ∈ ns.map tI → y.length ≤ 13 := fun y hy => by
    obtain ⟨n, hn, rfl⟩ := List.mem_map.mp hy
    exact tI_len (h.2 n hn)
  have b := join_le (a := ", ") a
  rw [List.length_map, len1.2.2.1] at b
  have := h.1
  exact ⟨a, by omega⟩
theorem lsT_len {ns : List Int} (h : Nok ns) : (lsT ns).length ≤ 1502 := by
  unfold lsT
  rw [len_addS, len_addS, len1.1, len1.2.1]
  have := (lsJ_len h).2
  omega
theorem prT_len {p : Int × Int} (h : p.1.natAbs < 1000000000000 ∧ p.2.natAbs < 1000000000000) : (prT p).length ≤ 28 := by
  unfold prT
  have h1 := tI_len h.1
  have h2 := tI_len h.2
  split
  · omega
  · rw [len_addS, len_addS, len_addS, len1.2.2.2.1, len1.2.2.2.2]
    omega
theorem bxJ_len {b : Bx97} (h : Bok b) : (∀ y, y ∈ b.map prT → y.length ≤ 28) ∧ (Txt.join ", " (b.map prT)).length ≤ 3000 := by
  have a : ∀ y, y ∈ b.map prT → y.length ≤ 28 := fun y hy => by
    obtain ⟨n, hn, rfl⟩ := List.mem_map.mp hy
    exact prT_len (h.2 n hn)
  have b' := join_le (a := ", ") a
  rw [List.length_map, len1.2.2.1] at b'
  have := h.1
  exact ⟨a, by omega⟩
theorem bxT_len {b : Bx97} (h : Bok b) : (bxT b).length ≤ 3002 := by
  unfold bxT
  rw [len_addS, len_addS, len1.1, len1.2.1]
  have := (bxJ_len h).2
  omega
def pieQ (ts : List TE) (acc : Str) (σ : L2.St) (R : Str → Hp → Prop) : VK := fun x H1 => (∃ y : Str, x = .str y ∧ y.length ≤ sizeLine ∧ ∃ z : Str, V.str y = .str z ∧ (acc ++ z).length ≤ sizeLine ∧ tJs ts (acc ++ z) σ H1 R) ∨
  ∃ i : Int, x = .int i ∧ i.natAbs.log2 < 1920 ∧ ∃ z : Str, V.str (Str.ofString (toString i)) = .str z ∧ (acc ++ z).length ≤ sizeLine ∧ tJs ts (acc ++ z) σ H1 R
section
variable {te : TE} {ts : List TE} {acc y : Str} {σ : L2.St} {H : Hp} {R : Str → Hp → Prop}
/-- {x}, x any expression -/
theorem x_jsT (q : te σ H (pieQ ts acc σ R)) : tJs (tFmt te :: ts) acc σ H R := q
theorem x_piS (h : acc.length + y.length ≤ 1000000) (q : tJs ts (acc ++ y) σ H R) : pieQ ts acc σ R (.str y) H :=
  .inl ⟨y, rfl, Nat.le_trans (by omega : y.length ≤ 1000000) (by decide), y, rfl, Nat.le_trans (show (acc ++ y).length ≤ 1000000 by rw [Str.length_append]; exact h) (by decide), q⟩
end
def sp_list_text : Sp := fun vs H Q _ => ∃ (ex : List Addr) (v : V) (d : Da) (ns : List Int), vs = [v] ∧ Rp ex H v d ∧ d.seq (ns.map Da.int) ∧ Nok ns ∧ ∀ H', Same H H' → Q (.str (lsT ns)) H'
theorem x_list_text {ex : List Addr} {v : V} {d : Da} {ns : List Int} {H : Hp} {Q : VK} {E : XK} (h : Rp ex H v d) (hs : d.seq (ns.map Da.int)) (hn : Nok ns) (q : ∀ H', Same H H' → Q (.str (lsT ns)) H') : sp_list_text [v] H Q E := ⟨ex, v, d, ns, rfl, h, hs, hn, q⟩
theorem rps_ns {ex : List Addr} {H : Hp} {xs : List V} {ns : List Int} (r : Rps ex H xs (ns.map Da.int)) : xs = ns.map V.int := by
  refine List.ext_getElem (by rw [r.1]; simp) fun i h1 h2 => ?_
  have h3 : i < ns.length := by simpa using h2
  have z := r.2 i xs[i] (.int ns[i]) (List.getElem?_eq_getElem h1) (by rw [List.getElem?_map, List.getElem?_eq_getElem h3]; rfl)
  rw [z.intI, List.getElem_map]
def sp_pair_text : Sp := fun vs H Q _ => ∃ (ex : List Addr) (v : V) (d : Da) (p : Int × Int), vs = [v] ∧ Rp ex H v d ∧ d.seq [.int p.1, .int p.2] ∧ (p.1.natAbs < 1000000000000 ∧ p.2.natAbs < 1000000000000) ∧ Q (.str (prT p)) H
/-- a box by its data, in tuples or in lists -/
def BoxS (d : Da) (b : Bx97) : Prop := ∃ ds, d.seq ds ∧ ds.length = b.length ∧ ∀ (i : Nat) e p, ds[i]? = some e → b[i]? = some p → e.seq [.int p.1, .int p.2]
def sp_box_text : Sp := fun vs H Q _ => ∃ (ex : List Addr) (v : V) (d : Da) (b : Bx97), vs = [v] ∧ Rp ex H v d ∧ BoxS d b ∧ Bok b ∧ ∀ H', Same H H' → Q (.str (bxT b)) H'
theorem x_box_text {ex : List Addr} {v : V} {d : Da} {b : Bx97} {H : Hp} {Q : VK} {E : XK} (h : Rp ex H v d) (hs : BoxS d b) (hn : Bok b) (q : ∀ H', Same H H' → Q (.str (bxT b)) H') : sp_box_text [v] H Q E := ⟨ex, v, d, b, rfl, h, hs, hn, q⟩

/-! ### statements and their texts -/
inductive Stm where
  | put (k : Int) (b : Bx97) (s : Option (List Int))
  | drop (k : Int)
  | turn (k t : Int) (s : List Int)
  | cond (w : Str) (cs : List (Str × Bx97)) (t : Int)
  | near (m : Int) (b : Bx97) (t : Int)
  | sky (t : Int)
  | dur (b : Bx97) (s e : Int)
  | fst (b : Bx97) (s : List Int) (x y : Int)
  | one (w : Str)
def Sm (i : Int) : Prop := i.natAbs < 1000000000000
def CsOk (cs : List (Str × Bx97)) : Prop := cs.length ≤ 20 ∧ ∀ c, c ∈ cs → c.1 ∈ wds ∧ Bok c.2 ∧ 0 < c.2.length
def Stm.Ok : Stm → Prop
  | .put k b s => Sm k ∧ (Bok b ∧ 0 < b.length) ∧ ∀ ns, s = some ns → Nok ns ∧ 0 < ns.length
  | .drop k => Sm k
  | .turn k t s => Sm k ∧ Sm t ∧ Nok s ∧ 0 < s.length
  | .cond w cs t => (w = "select" ∨ w = "count") ∧ CsOk cs ∧ Sm t
  | .near m b t => Sm m ∧ (Bok b ∧ 0 < b.length) ∧ Sm t
  | .sky t => Sm t
  | .dur b s e => (Bok b ∧ 0 < b.length) ∧ Sm s ∧ Sm e
  | .fst b s x y => (Bok b ∧ 0 < b.length) ∧ (Nok s ∧ 0 < s.length) ∧ Sm x ∧ Sm y
  | .one w => w = "commit" ∨ w = "rollback"
def Stm.wd : Stm → Str
  | .put .. => "put"
  | .drop .. => "drop"
  | .turn .. => "turn"
  | .cond w _ _ => w
  | .near .. => "nearest"
  | .sky .. => "skyline"
  | .dur .. => "during"
  | .fst .. => "first"
  | .one w => w
def cdT (c : Str × Bx97) : Str := ((Str.empty ++ c.1) ++ " ") ++ bxT c.2
def spT (s : Option (List Int)) : Str := match s with
  | none => ""
  | some ns => (Str.empty ++ " speed ") ++ lsT ns
def rsT (b : Bx97) (s : List Int) : Option (List Int) := if List.replicate b.length 0 = s then none else some s
def Stm.told : Stm → Str
  | .put k b s => (((Str.empty ++ tI k) ++ " ") ++ bxT b) ++ spT s
  | .drop k => tI k
  | .turn k t s => ((((Str.empty ++ tI k) ++ " at ") ++ tI t) ++ " speed ") ++ lsT s
  | .cond _ cs t => Txt.join " and " (if cs.isEmpty then ["all"] else cs.map cdT) ++ ((Str.empty ++ " at ") ++ tI t)
  | .near m b t => ((((Str.empty ++ tI m) ++ " to ") ++ bxT b) ++ " at ") ++ tI t
  | .sky t => (Str.empty ++ "at ") ++ tI t
  | .dur b s e => ((((Str.empty ++ bxT b) ++ " from ") ++ tI s) ++ " to ") ++ tI e
  | .fst b s x y => (((((Str.empty ++ bxT b) ++ spT (rsT b s)) ++ " from ") ++ tI x) ++ " to ") ++ tI y
  | .one _ => ""
def CdS (d : Da) (c : Str × Bx97) : Prop := ∃ B, d.seq [.str c.1, B] ∧ BoxS B c.2
def CsS (d : Da) (cs : List (Str × Bx97)) : Prop := ∃ ds, d.seq ds ∧ ds.length = cs.length ∧ ∀ (i : Nat) e c, ds[i]? = some e → cs[i]? = some c → CdS e c
def OpS (d : Da) : Option (List Int) → Prop
  | none => d = .non
  | some ns => d.seq (ns.map Da.int)
def Shp : Stm → List Da → Prop
  | .put k b s, ds => ∃ B S, ds = [.int k, B, S] ∧ BoxS B b ∧ OpS S s
  | .drop k, ds => ds = [.int k]
  | .turn k t s, ds => ∃ S, ds = [.int k, .int t, S] ∧ S.seq (s.map Da.int)
  | .cond _ cs t, ds => ∃ C, ds = [C, .int t] ∧ CsS C cs
  | .near m b t, ds => ∃ B, ds = [.int m, B, .int t] ∧ BoxS B b
  | .sky t, ds => ds = [.int t]
  | .dur b s e, ds => ∃ B, ds = [B, .int s, .int e] ∧ BoxS B b
  | .fst b s x y, ds => ∃ B S, ds = [B, S, .int x, .int y] ∧ BoxS B b ∧ S.seq (s.map Da.int)
  | .one _, ds => ds = []
def sp_wr (P : Stm → Prop) : Sp := fun vs H Q _ => ∃ (ex : List Addr) (ds : List Da) (s : Stm), P s ∧ Rps ex H vs ds ∧ Shp s ds ∧ s.Ok ∧ ∀ H', Same H H' → Q (.str s.told) H'
abbrev sp_put_text : Sp := sp_wr fun s => ∃ k b x, s = .put k b x
abbrev sp_drop_text : Sp := sp_wr fun s => ∃ k, s = .drop k
abbrev sp_turn_text : Sp := sp_wr fun s => ∃ k t x, s = .turn k t x
abbrev sp_conditional_text : Sp := sp_wr fun s => ∃ w c t, s = .cond w c t
abbrev sp_nearest_text : Sp := sp_wr fun s => ∃ m b t, s = .near m b t
abbrev sp_skyline_text : Sp := sp_wr fun s => ∃ t, s = .sky t
abbrev sp_during_text : Sp := sp_wr fun s => ∃ b x e, s = .dur b x e
abbrev sp_first_text : Sp := sp_wr fun s => ∃ b r x y, s = .fst b r x y
theorem rps_1 {ex : List Addr} {H : Hp} {d1 : Da} {xs : List V} (r : Rps ex H xs [d1]) : ∃ x, xs = [x] ∧ Rp ex H x d1 := by
  obtain ⟨l, q⟩ := r
  match xs, l, q with
  | [a], _, q => exact ⟨a, rfl, q 0 a d1 rfl rfl⟩
theorem rps_3 {ex : List Addr} {H : Hp} {d1 d2 d3 : Da} {xs : List V} (r : Rps ex H xs [d1, d2, d3]) : ∃ x y z, xs = [x, y, z] ∧ Rp ex H x d1 ∧ Rp ex H y d2 ∧ Rp ex H z d3 := by
  obtain ⟨l, q⟩ := r
  match xs, l, q with
  | [a, b, c], _, q => exact ⟨a, b, c, rfl, q 0 a d1 rfl rfl, q 1 b d2 rfl rfl, q 2 c d3 rfl rfl⟩
theorem rps_4 {ex : List Addr} {H : Hp} {d1 d2 d3 d4 : Da} {xs : List V} (r : Rps ex H xs [d1, d2, d3, d4]) : ∃ x y z u, xs = [x, y, z, u] ∧ Rp ex H x d1 ∧ Rp ex H y d2 ∧ Rp ex H z d3 ∧ Rp ex H u d4 := by
  obtain ⟨l, q⟩ := r
  match xs, l, q with
  | [a, b, c, d], _, q => exact ⟨a, b, c, d, rfl, q 0 a d1 rfl rfl, q 1 b d2 rfl rfl, q 2 c d3 rfl rfl, q 3 d d4 rfl rfl⟩
theorem len2 : (" " : Str).length = 1 ∧ (" at " : Str).length = 4 ∧ (" speed " : Str).length = 7 ∧ (" to " : Str).length = 4 ∧ ("at " : Str).length = 3 ∧ (" from " : Str).length = 6 ∧ ("all" : Str).length = 3 ∧ (" and " : Str).length = 5 ∧ ("" : Str).length = 0 := by decide +kernel
theorem spT_len {s : Option (List Int)} (h : ∀ ns, s = some ns → Nok ns ∧ 0 < ns.length) : (spT s).length ≤ 1509 := by
  cases s with
  | none => show ("" : Str).length ≤ _; rw [len2.2.2.2.2.2.2.2.2]; omega
  | some ns =>
    have := lsT_len (h ns rfl).1
    show ((Str.empty ++ " speed ") ++ lsT ns).length ≤ _
    rw [len_addS, len_addS, len1.2.2.2.2, len2.2.2.1]
    omega

theorem cdT_len {c : Str × Bx97} (h : c.1 ∈ wds ∧ Bok c.2 ∧ 0 < c.2.length) : (cdT c).length ≤ 3010 := by
  have t := bxT_len h.2.1
  have z : c.1.length ≤ 6 := by
    have hw := h.1
    unfold wds at hw
    simp only [List.mem_cons, List.not_mem_nil, or_false] at hw
    rcases hw with e | e | e <;> rw [e] <;> decide +kernel
  unfold cdT
  rw [len_addS, len_addS, len_addS, len1.2.2.2.2, len2.1]
  omega
theorem csJ_len {cs : List (Str × Bx97)} (h : CsOk cs) : (∀ y, y ∈ (if cs.isEmpty then [("all" : Str)] else cs.map cdT) → y.length ≤ 3010) ∧ (if cs.isEmpty then [("all" : Str)] else cs.map cdT).length ≤ 20 ∧ (Txt.join " and " (if cs.isEmpty then [("all" : Str)] else cs.map cdT)).length ≤ 70000 := by
  have a : (∀ y, y ∈ (if cs.isEmpty then [("all" : Str)] else cs.map cdT) → y.length ≤ 3010) ∧ (if cs.isEmpty then [("all" : Str)] else cs.map cdT).length ≤ 20 := by
    cases cs with
    | nil => exact ⟨fun y hy => by rw [List.mem_singleton.mp hy]; decide +kernel, by decide⟩
    | cons c cs =>
      refine ⟨fun y hy => ?_, ?_⟩
      · obtain ⟨n, hn, rfl⟩ := List.mem_map.mp hy
        exact cdT_len (h.2 n hn)
      · show ((c :: cs).map cdT).length ≤ 20
        rw [List.length_map]
        exact h.1
  have b := join_le (a := " and ") a.1
  rw [len2.2.2.2.2.2.2.2.1] at b
  exact ⟨a.1, a.2, by have := a.2; omega⟩
theorem eqv_intsD : ∀ a b : List Int, PyData.eqvAll (a.map .int) (b.map .int) = decide (a = b)
  | [], [] => by simp [PyData.eqvAll]
  | [], y :: b => by simp [PyData.eqvAll]
  | x :: a, [] => by simp [PyData.eqvAll]
  | x :: a, y :: b => by
    show PyData.eqvAll (.int x :: a.map .int) (.int y :: b.map .int) = _
    rw [PyData.eqvAll, eqv_intsD a b, PyData.eqv]
    by_cases e : x = y
    · subst e
      by_cases f : a = b
      · subst f; simp
      · simp [f]
    · simp [e]
theorem lay_intsR : ∀ a : List Int, PyData.canLayAll0 (a.map .int) = true
  | [] => by simp [PyData.canLayAll0]
  | x :: a => by
    show PyData.canLayAll0 (.int x :: a.map .int) = true
    rw [PyData.canLayAll0, lay_intsR a]
    simp [PyData.canLay0]
theorem depth_intsR : ∀ a : List Int, PyData.depthAll (a.map .int) = 0
  | [] => by simp [PyData.depthAll]
  | x :: a => by
    show PyData.depthAll (.int x :: a.map .int) = 0
    rw [PyData.depthAll, depth_intsR a]
    simp [PyData.depth]
theorem dpAll_ints {K : PySem.W.Frag} {H : Hp} : ∀ a : List Int, DpAll K H (a.map V.int) (a.map .int)
  | [] => .nil
  | x :: a => .cons (.int x) (dpAll_ints a)
theorem shaped_ints (a : List Int) : SeqAt.shaped (.list (a.map .int)) = true := by
  unfold SeqAt.shaped
  simp [PyData.canLay0, PyData.canLayAll0, PyData.depth, PyData.depthAll, lay_intsR, depth_intsR]
/-- two lists of numbers asked whether they are the same -/
theorem x_eqLs {K : PySem.W.Frag} {H : Hp} {Q : VK} {p q : Addr} {a b : List Int} (h1 : H p = some (.lst (a.map V.int))) (h2 : H q = some (.lst (b.map V.int))) (k : Q (.bl (decide (a = b))) H) : rEqX K (.ref p) (.ref q) H Q := by
  refine .inr ⟨_, _, .lst (SqL.of h1) (dpAll_ints a), .lst (SqL.of h2) (dpAll_ints b), shaped_ints a, shaped_ints b, ?_⟩
  have e : PyData.eqv (.list (a.map .int)) (.list (b.map .int)) = decide (a = b) := by
    rw [PyData.eqv, eqv_intsD]
  rw [e]
  exact k

def Stm.text : Stm → Str
  | .one w => w
  | s => ((Str.empty ++ s.wd) ++ " ") ++ s.told
theorem told_len {s : Stm} (h : s.Ok) : s.told.length ≤ 80000 := by
  have z := len1.2.2.2.2
  have z2 := len2
  obtain ⟨e1, e2, e3, e4, e5, e6, e7, e8, e9⟩ := z2
  cases s with
  | put k b s =>
    have t1 := tI_len h.1
    have t2 := bxT_len h.2.1.1
    have t3 := spT_len h.2.2
    show ((((Str.empty ++ tI k) ++ " ") ++ bxT b) ++ spT s).length ≤ _
    rw [len_addS, len_addS, len_addS, len_addS, z, e1]
    omega
  | drop k =>
    have t1 := tI_len h
    show (tI k).length ≤ _
    omega
  | turn k t s =>
    have t1 := tI_len h.1
    have t2 := tI_len h.2.1
    have t3 := lsT_len h.2.2.1
    show (((((Str.empty ++ tI k) ++ " at ") ++ tI t) ++ " speed ") ++ lsT s).length ≤ _
    rw [len_addS, len_addS, len_addS, len_addS, len_addS, z, e2, e3]
    omega
  | cond w cs t =>
    have t1 := (csJ_len h.2.1).2.2
    have t2 := tI_len h.2.2
    show (Txt.join " and " (if cs.isEmpty then ["all"] else cs.map cdT) ++ ((Str.empty ++ " at ") ++ tI t)).length ≤ _
    rw [len_addS, len_addS, len_addS, z, e2]
    omega
  | near m b t =>
    have t1 := tI_len h.1
    have t2 := bxT_len h.2.1.1
    have t3 := tI_len h.2.2
    show (((((Str.empty ++ tI m) ++ " to ") ++ bxT b) ++ " at ") ++ tI t).length ≤ _
    rw [len_addS, len_addS, len_addS, len_addS, len_addS, z, e4, e2]
    omega
  | sky t =>
    have t1 := tI_len h
    show ((Str.empty ++ "at ") ++ tI t).length ≤ _
    rw [len_addS, len_addS, z, e5]
    omega
  | dur b s e =>
    have t2 := bxT_len h.1.1
    have t1 := tI_len h.2.1
    have t3 := tI_len h.2.2
    show (((((Str.empty ++ bxT b) ++ " from ") ++ tI s) ++ " to ") ++ tI e).length ≤ _
    rw [len_addS, len_addS, len_addS, len_addS, len_addS, z, e6, e4]
    omega
  | fst b s x y =>
    have t2 := bxT_len h.1.1
    have t1 := tI_len h.2.2.1
    have t3 := tI_len h.2.2.2
    have t4 : (spT (rsT b s)).length ≤ 1509 := spT_len fun ns e => by
      unfold rsT at e
      split at e
      · cases e
      · injection e with e; rw [← e]; exact h.2.1
    show ((((((Str.empty ++ bxT b) ++ spT (rsT b s)) ++ " from ") ++ tI x) ++ " to ") ++ tI y).length ≤ _
    rw [len_addS, len_addS, len_addS, len_addS, len_addS, len_addS, z, e6, e4]
    omega
  | one w =>
    show ("" : Str).length ≤ _
    rw [e9]; omega
theorem x_gStar {K : PySem.W.Frag} {g1 g2 : TG} {σ : L2.St} {H : Hp} {Q : L2.St → Hp → Prop} {a : Addr} {x : V} {xs : List V} (h : H a = some (.tup (x :: xs)) ∨ H a = some (.lst (x :: xs))) (hl : xs.length ≤ 10000)
    (q : ∀ p H', Same H H' → H p = none → H' p = some (.lst xs) → g1 x σ H' fun σ1 H1 => g2 (.ref p) σ1 H1 Q) : gStar K g1 g2 (.ref a) σ H Q :=
  ⟨a, x, xs, rfl, h.imp SqT.of SqL.of, hl, fun p hp => q p _ (Same.new (Same.refl _) hp) hp upd_same⟩
def sp_printed (Bv : Addr) : Sp := fun vs H Q E => ∃ (ex : List Addr) (v : V) (d : Da), vs = [v] ∧ Rp ex H v d ∧ Live ex H ∧ Fq d ∧
  (stD d = false → ∀ H', Same H H' → ∀ dd : Addr, H' dd = none → E (.ref Bv) (some dd) (upd H' dd (.xd [(("at" : Str), .int 0)]))) ∧
  (stD d = true → ∃ s ds, d.seq (.str s.wd :: ds) ∧ Shp s ds ∧ s.Ok ∧ ∀ H', Same H H' → Q (.str s.text) H')

/-! ### statements drawn -/
theorem x_mapNE {m : Nat} {ex eo : List Addr} {H : Hp} {Q : VK} {g : TG} {tt : TT} {tx : TE} {vs : List Nat} {σ : L2.St} (Iv : Hp → Prop) (sub : ∀ a, a ∈ ex → a ∈ eo) (G : Nat → Da → Prop) (hm : m < 100000) (I0 : Iv H) (hL : ∀ H', Iv H' → Live eo H') (hI : ∀ H' D o, H D = none → Iv H' → Iv (upd H' D o))
    (hs : ∀ D (i : Nat) H1 (N : V → Hp → Prop) (Nx : Hp → Prop), H D = none → i < m → Kp ex H H1 → Live (D :: eo) H1 → Iv H1 → (∀ y H4 f, G i f → Kp ex H1 H4 → Iv H4 → Rp (D :: eo) H4 y f → N y H4) →
      g (.int (i : Int)) (wipe σ vs) H1 fun σ2 H2 => wipe σ2 vs = wipe σ vs ∧ tt σ2 H2 fun b H3 => if b = true then tx σ2 H3 N else Nx H3)
    (hd : ∀ v' H' fs, fs.length = m → (∀ i f, fs[i]? = some f → G i f) → Kp ex H H' → Iv H' → Rp eo H' v' (.lst fs) → Q v' H') : rawC (Itr 0 m) g tt tx vs σ H Q := by
  refine raw_mapE Iv sub G hm I0 hL hI (fun H' _ => Nat.le_refl _) (fun i H' c _ => c) (fun D i x H1 H' N Nx hD c kp L iv y hN => ?_) hd
  obtain ⟨rfl, rfl⟩ := y
  rw [Int.zero_add]
  exact hs D i _ N Nx hD c kp L iv hN

def pr2D (p : Int × Int) : Da := .tup [.int p.1, .int p.2]
def bx2D (b : Bx97) : Da := .tup (b.map pr2D)
def is2D (ns : List Int) : Da := .tup (ns.map Da.int)
def cd2D (c : Str × Bx97) : Da := .tup [.str c.1, bx2D c.2]
def sp__law_figure : Sp := fun vs H Q _ => ∃ (row sp : Addr), vs = [.ref row, .ref sp] ∧ Wd H row sp ∧ ∀ i H', Sm i → Kp [sp] H H' → Wd H' row sp → Q (.int i) H'
theorem x_figure {row sp : Addr} {H : Hp} {Q : VK} {E : XK} (W : Wd H row sp) (q : ∀ i H', Sm i → Kp [sp] H H' → Wd H' row sp → Q (.int i) H') : sp__law_figure [.ref row, .ref sp] H Q E := ⟨row, sp, rfl, W, q⟩
theorem seven_int {x y z u v w t : Int} {r : Int} (h0 : 0 ≤ r) (h1 : r < 7) {G : Int → Prop} (g1 : G x) (g2 : G y) (g3 : G z) (g4 : G u) (g5 : G v) (g6 : G w) (g7 : G t) : ∃ i, atI [V.int x, V.int y, V.int z, V.int u, V.int v, V.int w, V.int t] r = some (.int i) ∧ G i := by
  have : r = 0 ∨ r = 1 ∨ r = 2 ∨ r = 3 ∨ r = 4 ∨ r = 5 ∨ r = 6 := by omega
  rcases this with rfl | rfl | rfl | rfl | rfl | rfl | rfl
  · exact ⟨_, rfl, g1⟩
  · exact ⟨_, rfl, g2⟩
  · exact ⟨_, rfl, g3⟩
  · exact ⟨_, rfl, g4⟩
  · exact ⟨_, rfl, g5⟩
  · exact ⟨_, rfl, g6⟩
  · exact ⟨_, rfl, g7⟩
theorem ok__law_figure {f : Addr} {fd : FuncData} (F : Fun K "_law_figure" "_law_figure" s__law_figure f fd) (T : Txt K mg w D_READERS D_WORDS V_read_box V_read_condition V_read_conditional V_read_drop V_read_during V_read_first V_read_list V_read_nearest V_read_nothing V_read_number V_read_pair V_read_put V_read_skyline V_read_turn C_Reader tk_ALL tk_MOST_DIGITS) (O__law_take : Ok P w K mg base 2 "_law_take" ["row", "spot", "limit"] (sp__law_take)) (O__law_wide : Ok P w K mg base 3 "_law_wide" ["row", "spot", "limit"] (sp__law_wide)) : FnOk P w K mg base CX0 4 f fd ["row", "spot"] sp__law_figure := by
  refine F.ok sc__law_figure (fun vs H Q E h => ?_) (fun cdv A outer s H vs Q E hr h => ?_)
  · obtain ⟨row, sp, rfl, _⟩ := h
    rfl
  · obtain ⟨row, sp, rfl, W, k⟩ := h
    refine ⟨_, d__law_figure hr T O__law_take O__law_wide, ?_⟩
    unfold t__law_figure
    refine x_start (σ' := [some (.ref row), some (.ref sp), none, none]) rfl ?_
    walk_at "sts"
    refine x_take W (by decide) fun r1 H1 a1 b1 k1 W1 => ?_
    walk_at "sts"
    refine x_wide W1 (by decide) fun r2 H2 a2 b2 k2 W2 => ?_
    walk_at "sts"
    refine x_mulI (cmulR (by decide) (by decide)) ?_
    walk_at "sts"
    refine x_take W2 (by decide) fun r3 H3 a3 b3 k3 W3 => ?_
    walk_at "sts"
    refine x_mklN (m := 7) rfl (by decide) fun p H4 s4 z4 e4 => ?_
    have W4 := W3.same s4
    walk_at "sts"
    refine x_take W4 (by decide) fun r5 H5 a5 b5 k5 W5 => ?_
    obtain ⟨i, hi, gi⟩ := seven_int (G := Sm) (x := r1 - 20) (y := r1 - 20) (z := r2 * 997 + r3) (u := -(r2 * 997 + r3)) (v := 999999999999) (w := -999999999999) (t := 0) a5 b5 (by unfold Sm; omega) (by unfold Sm; omega) (by unfold Sm; omega) (by unfold Sm; omega) (by unfold Sm; decide) (by unfold Sm; decide) (by unfold Sm; decide)
    refine x_ixL (k5 _ _ (not1 (W3.sp_ne z4)) e4) hi ?_
    exact k i _ gi ((((k1.trans k2).trans k3).same s4).trans k5) W5
def Bok1 (b : Bx97) : Prop := b.length ≤ 16 ∧ ∀ p, p ∈ b → Sm p.1 ∧ Sm p.2
theorem Bok1.ok {b : Bx97} (h : Bok1 b) : Bok b := ⟨by have := h.1; omega, h.2⟩
def sp__law_any_box : Sp := fun vs H Q _ => ∃ (row sp : Addr), vs = [.ref row, .ref sp] ∧ Wd H row sp ∧ ∀ v H' b, Kp [sp] H H' → Wd H' row sp → Rp [sp] H' v (bx2D b) → Bok1 b → 0 < b.length → Q v H'
theorem x_any_box {row sp : Addr} {H : Hp} {Q : VK} {E : XK} (W : Wd H row sp) (q : ∀ v H' b, Kp [sp] H H' → Wd H' row sp → Rp [sp] H' v (bx2D b) → Bok1 b → 0 < b.length → Q v H') : sp__law_any_box [.ref row, .ref sp] H Q E := ⟨row, sp, rfl, W, q⟩
theorem ok__law_any_box {f : Addr} {fd : FuncData} (F : Fun K "_law_any_box" "_law_any_box" s__law_any_box f fd) (T : Txt K mg w D_READERS D_WORDS V_read_box V_read_condition V_read_conditional V_read_drop V_read_during V_read_first V_read_list V_read_nearest V_read_nothing V_read_number V_read_pair V_read_put V_read_skyline V_read_turn C_Reader tk_ALL tk_MOST_DIGITS) (O__law_figure : Ok P w K mg base 4 "_law_figure" ["row", "spot"] (sp__law_figure)) (O__law_take : Ok P w K mg base 2 "_law_take" ["row", "spot", "limit"] (sp__law_take)) : FnOk P w K mg base CX0 5 f fd ["row", "spot"] sp__law_any_box := by
  refine F.ok sc__law_any_box (fun vs H Q E h => ?_) (fun cdv A outer s H vs Q E hr h => ?_)
  · obtain ⟨row, sp, rfl, _⟩ := h
    rfl
  · obtain ⟨row, sp, rfl, W, k⟩ := h
    refine ⟨_, d__law_any_box hr T O__law_figure O__law_take, ?_⟩
    unfold t__law_any_box
    refine x_start (σ' := [some (.ref row), some (.ref sp), none, none, none]) rfl ?_
    walk_at "sts"
    refine x_mkl rfl (by decide) fun p hp => ?_
    walk_at "sts"
    have ps := W.sp_ne hp
    have pr := W.row_ne hp
    have W0 : Wd (upd H p (.lst [])) row sp := W.new hp
    refine x_cutE (fun v H' => ∃ l, v = .int l ∧ 0 < l ∧ l ≤ 16 ∧ Kp [sp] (upd H p (.lst [])) H' ∧ Wd H' row sp) ?_ ?_
    · walk_at "sts"
      refine x_take W0 (by decide) fun r1 H1 a1 b1 k1 W1 => ?_
      walk_at "sts"
      refine x_dec (fun c => ?_) (fun c => ?_)
      · walk_at "sts"
        exact ⟨by decide, by decide, k1, W1⟩
      · walk_at "sts"
        exact ⟨by decide, by decide, k1, W1⟩
    · rintro v H1 ⟨l, rfl, l0, l1, k1, W1⟩
      walk_at "sts"
      refine x_take W1 l0 fun r2 H2 a2 b2 k2 W2 => ?_
      walk_at "sts"
      obtain ⟨n, hn⟩ : ∃ n : Nat, 1 + r2 = (n : Int) := ⟨(1 + r2).toNat, by omega⟩
      refine x_rng n (by omega) hn ?_
      have e2 : H2 p = some (.lst []) := k2 _ _ (not1 ps) (k1 _ _ (not1 ps) upd_same)
      have k02 : Kp [sp] H H2 := ((Kp.refl.new hp).trans k1).trans k2
      refine x_loopR (fun i σ H' => ∃ (bx : Bx97) (xs : List V) (x3 x4 : Option V), σ = [some (.ref row), some (.ref sp), some (.ref p), x3, x4] ∧ Kp [sp] H H' ∧ Wd H' row sp ∧ H' p = some (.lst xs) ∧ Rps [p, sp] H' xs (bx.map pr2D) ∧ bx.length = i ∧ (∀ q, q ∈ bx → Sm q.1 ∧ Sm q.2)) ?_ ?_ ?_
      · exact ⟨[], [], _, _, rfl, k02, W2, e2, Rps.nil, rfl, fun p h => nomatch h⟩
      · rintro i σ H' hi ⟨bx, xs, x3, x4, rfl, kp, W', e', r', l', b'⟩
        walk_at "sts"
        refine x_figure W' fun lo H3 g3 k3 W3 => ?_
        walk_at "sts"
        have e3 := k3 _ _ (not1 ps) e'
        refine x_bmL e3 ?_
        walk_at "sts"
        refine x_cutE (fun v H4 => ∃ j, v = .int j ∧ Sm j ∧ Kp [sp] H3 H4 ∧ Wd H4 row sp) ?_ ?_
        · walk_at "sts"
          refine x_take W3 (by decide) fun r4 H4 a4 b4 k4 W4 => ?_
          walk_at "sts"
          refine x_dec (fun c => ?_) (fun c => ?_)
          · walk_at "sts"
            exact ⟨g3, k4, W4⟩
          · walk_at "sts"
            refine x_figure W4 fun j H5 g5 k5 W5 => ?_
            exact ⟨j, rfl, g5, k4.trans k5, W5⟩
        · rintro v H4 ⟨j, rfl, gj, k4, W4⟩
          walk_at "sts"
          refine x_mkt (m := 2) rfl (by decide) fun q hq => ?_
          walk_at "sts"
          have e4 := k4 _ _ (not1 ps) e3
          have hxl : xs.length = i := by rw [r'.1, List.length_map, l']
          refine x_app (upd_get hq e4) (szl (by omega)) ?_
          have K1 : Kp [p, sp] H' H4 := (k3.trans k4).more
          have hqp : q ∉ [p, sp] := fun z => by
            rcases List.mem_cons.mp z with rfl | z
            · rw [hq] at e4; cases e4
            · exact not1 (W4.sp_ne hq) z
          have R2 : Rps [p, sp] (upd (upd H4 q (.tup [.int lo, .int j])) p (.lst (xs ++ [.ref q]))) (xs ++ [.ref q]) ((bx ++ [(lo, j)]).map pr2D) := by
            have kk : Kp [p, sp] H4 (upd (upd H4 q (.tup [.int lo, .int j])) p (.lst (xs ++ [.ref q]))) := (Kp.refl.new hq).mut (List.mem_cons_self ..)
            rw [List.map_append]
            refine rps_snoc (rps_kp r' (K1.trans kk)) ?_
            refine rps_tup (xs := [.int lo, .int j]) (Rps.cons (.int _) (Rps.cons (.int _) Rps.nil)) hqp ?_
            exact upd_get' (fun z => hqp (by rw [z]; exact List.mem_cons_self ..)) upd_same
          refine ⟨_, _, _, _, rfl, ((kp.trans (k3.trans k4)).new hq).own hp, (W4.new hq).own ps pr, upd_same, R2, by simp [l'], fun z hz => ?_⟩
          rcases List.mem_append.mp hz with hz | hz
          · exact b' z hz
          · rw [List.mem_singleton.mp hz]
            exact ⟨g3, gj⟩
      · rintro σ H' ⟨bx, xs, x3, x4, rfl, kp, W', e', r', l', b'⟩
        walk_at "sts"
        refine x_tupL (SqL.of e') fun l hl2 => ?_
        refine k _ _ bx (kp.new hl2) (W'.new hl2) ?_ ⟨by omega, b'⟩ (by omega)
        exact rps_tup (rps_same (rps_tail r') (Same.new (Same.refl _) hl2)) (not1 (W'.sp_ne hl2)) upd_same
def Nok1 (ns : List Int) : Prop := ns.length ≤ 16 ∧ ∀ n, n ∈ ns → Sm n
theorem Nok1.ok {ns : List Int} (h : Nok1 ns) : Nok ns := ⟨by have := h.1; omega, h.2⟩
def sp__law_any_list : Sp := fun vs H Q _ => ∃ (row sp : Addr) (n : Nat), vs = [.ref row, .ref sp, .int (n : Int)] ∧ Wd H row sp ∧ n ≤ 16 ∧ ∀ v H' ns, Kp [sp] H H' → Wd H' row sp → Rp [sp] H' v (is2D ns) → Nok1 ns → ns.length = n → Q v H'
theorem x_any_list {row sp : Addr} {n : Nat} {z : Int} {H : Hp} {Q : VK} {E : XK} (hz : z = (n : Int)) (W : Wd H row sp) (hn : n ≤ 16) (q : ∀ v H' ns, Kp [sp] H H' → Wd H' row sp → Rp [sp] H' v (is2D ns) → Nok1 ns → ns.length = n → Q v H') : sp__law_any_list [.ref row, .ref sp, .int z] H Q E := ⟨row, sp, n, by rw [hz], W, hn, q⟩
theorem ok__law_any_list {f : Addr} {fd : FuncData} (F : Fun K "_law_any_list" "_law_any_list" s__law_any_list f fd) (T : Txt K mg w D_READERS D_WORDS V_read_box V_read_condition V_read_conditional V_read_drop V_read_during V_read_first V_read_list V_read_nearest V_read_nothing V_read_number V_read_pair V_read_put V_read_skyline V_read_turn C_Reader tk_ALL tk_MOST_DIGITS) (O__law_figure : Ok P w K mg base 4 "_law_figure" ["row", "spot"] (sp__law_figure)) (O__law_take : Ok P w K mg base 2 "_law_take" ["row", "spot", "limit"] (sp__law_take)) : FnOk P w K mg base CX0 5 f fd ["row", "spot", "many"] sp__law_any_list := by
  refine F.ok sc__law_any_list (fun vs H Q E h => ?_) (fun cdv A outer s H vs Q E hr h => ?_)
  · obtain ⟨row, sp, n, rfl, _⟩ := h
    rfl
  · obtain ⟨row, sp, n, rfl, W, hn, k⟩ := h
    refine ⟨_, d__law_any_list hr T O__law_figure O__law_take, ?_⟩
    unfold t__law_any_list
    refine x_start (σ' := [some (.ref row), some (.ref sp), some (.int (n : Int)), none]) rfl ?_
    have hI : ∀ (H' : Hp) (D : Addr) (o : HO), H D = none → Wd H' row sp → Wd (upd H' D o) row sp := fun H' D o n w => w.own (W.sp_ne n) (W.row_ne n)
    walk_at "sts"
    refine x_rng n (by omega) rfl ?_
    refine x_mapNE (ex := [sp]) (eo := [sp]) (fun H' => Wd H' row sp) (fun a h => h) (fun _ f => ∃ x : Int, f = .int x ∧ Sm x) (by omega) W (fun H' w => w.live) hI (fun D i' G1 N Nx hD hi' kp L1 iv hN => ?_) (fun v' G2 fs lf gf kp iv rf => ?_)
    · walk_at "sts"
      refine ⟨rfl, ?_⟩
      refine x_cutE (fun v H4 => ∃ j, v = .int j ∧ Sm j ∧ Kp [sp] G1 H4 ∧ Wd H4 row sp) ?_ ?_
      · walk_at "sts"
        refine x_take iv (by decide) fun r4 H4 a4 b4 k4 W4 => ?_
        walk_at "sts"
        refine x_dec (fun c => ?_) (fun c => ?_)
        · walk_at "sts"
          exact x_figure W4 fun j H5 g5 k5 W5 => ⟨j, rfl, g5, k4.trans k5, W5⟩
        · walk_at "sts"
          exact ⟨by unfold Sm; decide, k4, W4⟩
      · rintro v H4 ⟨j, rfl, gj, k4, W4⟩
        exact hN _ _ _ ⟨j, rfl, gj⟩ k4 W4 (.int _)
    · obtain ⟨l, rfl, gl⟩ := of_all (F := Da.int) gf
      walk_at "sts"
      refine x_tupR rf iv.live fun v2 H3 s3 r3 => ?_
      rw [List.length_map] at lf
      exact k v2 H3 l (kp.same s3) (iv.same s3) r3 ⟨by omega, gl⟩ lf


theorem Rp.avoid {ex : List Addr} {H : Hp} {r : Addr} {rs : List V} {v : V} {d : Da} (h : Rp ex H v d) (hr : H r = some (.lst rs)) : ∀ {n : Nat}, Dn n d → Rp (r :: ex) H v d := by
  induction h with
  | non => intro n _; exact .non
  | bl b => intro n _; exact .bl b
  | int i => intro n _; exact .int i
  | str z => intro n _; exact .str z
  | @tup a xs ds na e l h ih =>
    intro n hd
    cases hd with
    | @tup n _ hl hd =>
      refine .tup (fun z => ?_) e l fun i x d h1 h2 => ih i x d h1 h2 (hd d (List.mem_of_getElem? h2))
      rcases List.mem_cons.mp z with rfl | z
      · rw [hr] at e; cases e
      · exact na z
  | lst => intro n hd; cases hd
theorem bx_dn {b : Bx97} (h : Bok b) : Dn 3 (bx2D b) := by
  refine .tup (by rw [List.length_map]; have := h.1; omega) fun d hd => ?_
  obtain ⟨p, _, rfl⟩ := List.mem_map.mp hd
  refine .tup (Nat.le_of_ble_eq_true rfl) fun d hd => ?_
  simp only [List.mem_cons, List.not_mem_nil, or_false] at hd
  rcases hd with rfl | rfl
  · exact .int _
  · exact .int _
def opD : Option (List Int) → Da
  | none => .non
  | some ns => is2D ns
def Stm.ps : Stm → List Da
  | .put k b s => [.int k, bx2D b, opD s]
  | .drop k => [.int k]
  | .turn k t s => [.int k, .int t, is2D s]
  | .cond _ cs t => [.tup (cs.map cd2D), .int t]
  | .near m b t => [.int m, bx2D b, .int t]
  | .sky t => [.int t]
  | .dur b s e => [bx2D b, .int s, .int e]
  | .fst b s x y => [bx2D b, is2D s, .int x, .int y]
  | .one _ => []
def Stm.da (s : Stm) : Da := .tup (.str s.wd :: s.ps)
def sp__law_statement : Sp := fun vs H Q _ => ∃ (row sp : Addr), vs = [.ref row, .ref sp] ∧ Wd H row sp ∧ ∀ v H' (s : Stm), Kp [sp] H H' → Wd H' row sp → Rp [sp] H' v s.da → s.Ok → Q v H'
theorem x_statement {row sp : Addr} {H : Hp} {Q : VK} {E : XK} (W : Wd H row sp) (q : ∀ v H' (s : Stm), Kp [sp] H H' → Wd H' row sp → Rp [sp] H' v s.da → s.Ok → Q v H') : sp__law_statement [.ref row, .ref sp] H Q E := ⟨row, sp, rfl, W, q⟩
theorem three_wd {r : Int} (h0 : 0 ≤ r) (h1 : r < 3) : ∃ z, atI [V.str "meets", V.str "inside", V.str "covers"] r = some (.str z) ∧ z ∈ wds := by
  have : r = 0 ∨ r = 1 ∨ r = 2 := by omega
  rcases this with rfl | rfl | rfl
  · exact ⟨_, rfl, by decide +kernel⟩
  · exact ⟨_, rfl, by decide +kernel⟩
  · exact ⟨_, rfl, by decide +kernel⟩
theorem ok__law_statement {f : Addr} {fd : FuncData} (F : Fun K "_law_statement" "_law_statement" s__law_statement f fd) (T : Txt K mg w D_READERS D_WORDS V_read_box V_read_condition V_read_conditional V_read_drop V_read_during V_read_first V_read_list V_read_nearest V_read_nothing V_read_number V_read_pair V_read_put V_read_skyline V_read_turn C_Reader tk_ALL tk_MOST_DIGITS) (O__law_any_box : Ok P w K mg base 5 "_law_any_box" ["row", "spot"] (sp__law_any_box)) (O__law_any_list : Ok P w K mg base 5 "_law_any_list" ["row", "spot", "many"] (sp__law_any_list)) (O__law_figure : Ok P w K mg base 4 "_law_figure" ["row", "spot"] (sp__law_figure)) (O__law_take : Ok P w K mg base 2 "_law_take" ["row", "spot", "limit"] (sp__law_take)) : FnOk P w K mg base CX0 6 f fd ["row", "spot"] sp__law_statement := by
  refine F.ok sc__law_statement (fun vs H Q E h => ?_) (fun cdv A outer s H vs Q E hr h => ?_)
  · obtain ⟨row, sp, rfl, _⟩ := h
    rfl
  · obtain ⟨row, sp, rfl, W, k⟩ := h
    refine ⟨_, d__law_statement hr T O__law_any_box O__law_any_list O__law_figure O__law_take, ?_⟩
    unfold t__law_statement
    refine x_start (σ' := [some (.ref row), some (.ref sp), none, none, none, none, none, none, none, none]) rfl ?_
    walk_at "sts"
    refine x_take W (by decide) fun kd H1 a1 b1 k1 W1 => ?_
    walk_at "sts"
    refine x_any_box W1 fun vb H2 b k2 W2 rb ob lb => ?_
    walk_at "sts"
    refine x_figure W2 fun one H3 g3 k3 W3 => ?_
    walk_at "sts"
    refine x_figure W3 fun oth H4 g4 k4 W4 => ?_
    have rb4 := (rb.kp k3).kp k4
    have k14 := ((k1.trans k2).trans k3).trans k4
    clear k1 k2 k3 k4 W1 W2 W3
    walk_at "sts"
    refine x_cutE (fun v H' => ∃ n : Nat, v = .int (n : Int) ∧ 0 < n ∧ n ≤ 16 ∧ Kp [sp] H4 H' ∧ Wd H' row sp) ?_ ?_
    · walk_at "sts"
      refine x_take W4 (by decide) fun r5 H5 a5 b5 k5 W5 => ?_
      walk_at "sts"
      refine x_dec (fun c => ?_) (fun c => ?_)
      · walk_at "sts"
        refine x_lenR (rb4.kp k5) (.inl rfl) ?_
        rw [List.length_map]
        exact ⟨b.length, rfl, lb, ob.1, k5, W5⟩
      · walk_at "sts"
        refine x_take W5 (by decide) fun r6 H6 a6 b6 k6 W6 => ?_
        walk_at "sts"
        exact ⟨(1 + r6).toNat, by rw [Int.toNat_of_nonneg (by omega)], by omega, by omega, k5.trans k6, W6⟩
    · rintro v H5 ⟨n, rfl, n0, n1, k5, W5⟩
      walk_at "sts"
      refine x_any_list rfl W5 n1 fun vd H6 ns k6 W6 rd od ld => ?_
      have rb6 := (rb4.kp k5).kp k6
      have k16 := (k14.trans k5).trans k6
      clear k14 k5 k6 W4 W5
      walk_at "sts"
      refine x_cut (fun σ' H' => ∃ (vd' : V) (ns' : List Int) (x8 : Option V), σ' = [some (.ref row), some (.ref sp), some (.int kd), some vb, some (.int one), some (.int oth), some vd', none, x8, none] ∧ Kp [sp] H6 H' ∧ Wd H' row sp ∧ Rp [sp] H' vd' (is2D ns') ∧ Nok1 ns' ∧ 0 < ns'.length) ?_ ?_
      · walk_at "sts"
        refine x_take W6 (by decide) fun r7 H7 a7 b7 k7 W7 => ?_
        walk_at "sts"
        refine x_dec (fun c => ?_) (fun c => ?_)
        · walk_at "sts"
          obtain ⟨a, xs, rfl, na, ea, ra⟩ := (rd.kp k7).tupI
          have lx : xs.length = ns.length := by rw [ra.1, List.length_map]
          refine x_lcS (.inl ea) (fun D i H' => Same H7 H' ∧ H7 D = none ∧ H' D = some (.lst ((List.replicate i (0 : Int)).map V.int))) ?_ ?_ ?_ ?_
          · exact fun D hD => ⟨Same.new (Same.refl _) hD, hD, upd_same⟩
          · exact fun D i H2 z => z.1
          · rintro D i x5 H' hx ⟨s2, hD, hy⟩
            have hi : i < xs.length := (List.getElem?_eq_some_iff.mp hx).1
            have := od.1
            walk_at "sts"
            refine ⟨rfl, ?_⟩
            walk_at "sts"
            refine ⟨_, hy, szl (by simp; omega), Same.own s2 hD, hD, ?_⟩
            have e : (List.replicate (i + 1) (0 : Int)).map V.int = (List.replicate i (0 : Int)).map V.int ++ [V.int 0] := by
              rw [List.replicate_succ', List.map_append]
              rfl
            rw [e]
            exact upd_same
          · rintro D H8 ⟨s8, hD, hy⟩
            rw [lx] at hy
            have W8 := W7.same s8
            walk_at "sts"
            refine x_tupL (SqL.of hy) fun l hl => ?_
            walk_at "sts"
            have s9 := Same.new (o := .tup ((List.replicate ns.length (0 : Int)).map V.int)) (Same.refl H8) hl
            refine ⟨.ref l, List.replicate ns.length 0, _, rfl, ((k7.same s8).same s9), W8.same s9, rps_tup (rps_ints _) (not1 (W8.sp_ne hl)) upd_same, ⟨by rw [List.length_replicate]; exact od.1, fun m hm => by rw [List.eq_of_mem_replicate hm]; unfold Sm; decide⟩, by rw [List.length_replicate]; omega⟩
        · walk_at "sts"
          exact ⟨vd, ns, _, rfl, k7, W7, rd.kp k7, od, by omega⟩
      · rintro σ' H7 ⟨vd', ns', x8, rfl, k7, W7, rd7, od7, ld7⟩
        have rb7 := rb6.kp k7
        have k17 := k16.trans k7
        clear k16 k7 W6 rd od ld
        walk_at "sts"
        refine x_mkl rfl (by decide) fun p hp => ?_
        walk_at "sts"
        have ps := W7.sp_ne hp
        have pr := W7.row_ne hp
        have W8 : Wd (upd H7 p (.lst [])) row sp := W7.new hp
        refine x_cutE (fun v H' => ∃ l, v = .int l ∧ 0 < l ∧ l ≤ 16 ∧ Kp [sp] (upd H7 p (.lst [])) H' ∧ Wd H' row sp) ?_ ?_
        · walk_at "sts"
          refine x_take W8 (by decide) fun r9 H9 a9 b9 k9 W9 => ?_
          walk_at "sts"
          refine x_dec (fun c => ?_) (fun c => ?_)
          · walk_at "sts"
            exact ⟨by decide, by decide, k9, W9⟩
          · walk_at "sts"
            exact ⟨by decide, by decide, k9, W9⟩
        · rintro v H9 ⟨l, rfl, l0, l1, k9, W9⟩
          walk_at "sts"
          refine x_take W9 l0 fun r10 H10 a10 b10 k10 W10 => ?_
          walk_at "sts"
          obtain ⟨m, hm⟩ : ∃ m : Nat, r10 = (m : Int) := ⟨r10.toNat, by omega⟩
          refine x_rng m (by omega) hm ?_
          have e10 : H10 p = some (.lst []) := k10 _ _ (not1 ps) (k9 _ _ (not1 ps) upd_same)
          have k710 : Kp [sp] H7 H10 := ((Kp.refl.new hp).trans k9).trans k10
          refine x_loopR (fun i σ H' => ∃ (cs : List (Str × Bx97)) (xs : List V) (x8 : Option V), σ = [some (.ref row), some (.ref sp), some (.int kd), some vb, some (.int one), some (.int oth), some vd', some (.ref p), x8, none] ∧ Kp [sp] H7 H' ∧ Wd H' row sp ∧ H' p = some (.lst xs) ∧ Rps [p, sp] H' xs (cs.map cd2D) ∧ cs.length = i ∧ (∀ c, c ∈ cs → c.1 ∈ wds ∧ Bok c.2 ∧ 0 < c.2.length)) ?_ ?_ ?_
          · exact ⟨[], [], _, rfl, k710, W10, e10, Rps.nil, rfl, fun p h => nomatch h⟩
          · rintro i σ H' hi ⟨cs, xs, x8, rfl, kp, W', e', r', l', b'⟩
            walk_at "sts"
            refine x_bmL e' ?_
            walk_at "sts"
            refine x_mklN (m := 3) rfl (by decide) fun q H11 s11 z11 e11 => ?_
            have W11 := W'.same s11
            walk_at "sts"
            refine x_take W11 (by decide) fun r12 H12 a12 b12 k12 W12 => ?_
            obtain ⟨z, hz, gz⟩ := three_wd a12 b12
            walk_at "sts"
            refine x_ixL (k12 _ _ (not1 (W'.sp_ne z11)) e11) hz ?_
            walk_at "sts"
            refine x_any_box W12 fun vb2 H13 b2 k13 W13 rb2 ob2 lb2 => ?_
            walk_at "sts"
            refine x_mkt (m := 2) rfl (by decide) fun t ht => ?_
            walk_at "sts"
            have e13 := k13 _ _ (not1 ps) (k12 _ _ (not1 ps) (s11 _ _ e'))
            have hxl : xs.length = i := by rw [r'.1, List.length_map, l']
            refine x_app (upd_get ht e13) (szl (by omega)) ?_
            have K1 : Kp [p, sp] H' H13 := (Kp.trans (Same.kp s11) (k12.trans k13)).more
            have rb2' : Rp [p, sp] H13 vb2 (bx2D b2) := rb2.avoid e13 (bx_dn ob2.ok)
            have htp : t ∉ [p, sp] := fun z => by
              rcases List.mem_cons.mp z with rfl | z
              · rw [ht] at e13; cases e13
              · exact not1 (W13.sp_ne ht) z
            have kk : Kp [p, sp] H13 (upd (upd H13 t (.tup [.str z, vb2])) p (.lst (xs ++ [.ref t]))) := (Kp.refl.new ht).mut (List.mem_cons_self ..)
            have R2 : Rps [p, sp] (upd (upd H13 t (.tup [.str z, vb2])) p (.lst (xs ++ [.ref t]))) (xs ++ [.ref t]) ((cs ++ [(z, b2)]).map cd2D) := by
              rw [List.map_append]
              refine rps_snoc (rps_kp r' (K1.trans kk)) ?_
              refine rps_tup (xs := [.str z, vb2]) (Rps.cons (.str _) (Rps.cons (rb2'.kp kk) Rps.nil)) htp ?_
              exact upd_get' (fun z => htp (by rw [z]; exact List.mem_cons_self ..)) upd_same
            refine ⟨_, _, _, rfl, ((kp.trans (Kp.trans (Same.kp s11) (k12.trans k13))).new ht).own hp, (W13.new ht).own ps pr, upd_same, R2, by simp [l'], fun y hy => ?_⟩
            rcases List.mem_append.mp hy with hy | hy
            · exact b' y hy
            · rw [List.mem_singleton.mp hy]
              exact ⟨gz, ob2.ok, lb2⟩
          · rintro σ H11 ⟨cs, xs, x8, rfl, kp, W11, e11, r11, l11, o11⟩
            have rb11 := rb7.kp kp
            have rd11 := rd7.kp kp
            have k111 := k17.trans kp
            have hxl : xs.length = m := by rw [r11.1, List.length_map, l11]
            clear kp k17 rb7 rd7 W7 W8 W9 W10 e10 k710 k9 k10
            walk_at "sts"
            refine x_cutE (fun v H' => ∃ sv : Option (List Int), Kp [sp] H11 H' ∧ Wd H' row sp ∧ Rp [sp] H' v (opD sv) ∧ ∀ ns, sv = some ns → Nok ns ∧ 0 < ns.length) ?_ ?_
            · walk_at "sts"
              refine x_take W11 (by decide) fun r12 H12 a12 b12 k12 W12 => ?_
              walk_at "sts"
              refine x_dec (fun c => ?_) (fun c => ?_)
              · walk_at "sts"
                exact ⟨none, k12, W12, .non, fun ns z => nomatch z⟩
              · walk_at "sts"
                exact ⟨some ns', k12, W12, rd11.kp k12, fun ns z => by cases z; exact ⟨od7.ok, ld7⟩⟩
            · rintro vs H12 ⟨sv, k12, W12, rs, os⟩
              have rb12 := rb11.kp k12
              have rd12 := rd11.kp k12
              have e12 := k12 _ _ (not1 ps) e11
              have r12 : Rps [p, sp] H12 xs (cs.map cd2D) := rps_kp r11 k12.more
              have k112 := k111.trans k12
              clear k12 k111 rb11 rd11 e11 r11 W11
              walk_at "sts"
              refine x_mkT (ex := [sp]) (ds := (Stm.put one b sv).ps.cons (.str "put")) (Rps.cons (.str _) (Rps.cons (.int _) (Rps.cons rb12 (Rps.cons rs Rps.nil)))) W12.live (Nat.le_of_ble_eq_true rfl) fun t1 G1 q1 g1 => ?_
              have W13 := W12.same q1
              walk_at "sts"
              refine x_mkT (ex := [sp]) (ds := (Stm.drop one).ps.cons (.str "drop")) (Rps.cons (.str _) (Rps.cons (.int _) Rps.nil)) W13.live (Nat.le_of_ble_eq_true rfl) fun t2 G2 q2 g2 => ?_
              have W14 := W13.same q2
              walk_at "sts"
              refine x_mkT (ex := [sp]) (ds := (Stm.turn one oth ns').ps.cons (.str "turn")) (Rps.cons (.str _) (Rps.cons (.int _) (Rps.cons (.int _) (Rps.cons ((rd12.same q1).same q2) Rps.nil)))) W14.live (Nat.le_of_ble_eq_true rfl) fun t3 G3 q3 g3' => ?_
              have W15 := W14.same q3
              walk_at "sts"
              refine x_mkL (ex := [sp]) (ds := [(Stm.put one b sv).da, (Stm.drop one).da, (Stm.turn one oth ns').da]) (Rps.cons ((g1.same q2).same q3) (Rps.cons (g2.same q3) (Rps.cons g3' Rps.nil))) W15.live (Nat.le_of_ble_eq_true rfl) fun t4 G4 q4 g4' => ?_
              have W16 := W15.same q4
              have s14 : Same H12 G4 := ((q1.trans q2).trans q3).trans q4
              have e16 := s14 _ _ e12
              have r16 : Rps [sp] G4 xs (cs.map cd2D) := rps_tail (rps_same r12 s14)
              clear g1 g2 g3' q1 q2 q3 q4 W13 W14 W15
              walk_at "sts"
              refine x_tupL (SqL.of e16) fun l1' hl1 => ?_
              have q5 := Same.new (o := .tup xs) (Same.refl G4) hl1
              have g5 : Rp [sp] (upd G4 l1' (.tup xs)) (.ref l1') (.tup (cs.map cd2D)) := rps_tup (rps_same r16 q5) (not1 (W16.sp_ne hl1)) upd_same
              have W17 := W16.same q5
              generalize upd G4 l1' (.tup xs) = G5 at q5 g5 W17 ⊢
              walk_at "sts"
              refine x_mkT (ex := [sp]) (ds := (Stm.cond "select" cs one).ps.cons (.str "select")) (Rps.cons (.str _) (Rps.cons g5 (Rps.cons (.int _) Rps.nil))) W17.live (Nat.le_of_ble_eq_true rfl) fun t6 G6 q6 g6 => ?_
              have W18 := W17.same q6
              walk_at "sts"
              refine x_tupL (SqL.of (q6 _ _ (q5 _ _ e16))) fun l2' hl2 => ?_
              have q7 := Same.new (o := .tup xs) (Same.refl G6) hl2
              have g7 : Rp [sp] (upd G6 l2' (.tup xs)) (.ref l2') (.tup (cs.map cd2D)) := rps_tup (rps_same (rps_same r16 (q5.trans q6)) q7) (not1 (W18.sp_ne hl2)) upd_same
              have W19 := W18.same q7
              generalize upd G6 l2' (.tup xs) = G7 at q7 g7 W19 ⊢
              walk_at "sts"
              refine x_mkT (ex := [sp]) (ds := (Stm.cond "count" cs one).ps.cons (.str "count")) (Rps.cons (.str _) (Rps.cons g7 (Rps.cons (.int _) Rps.nil))) W19.live (Nat.le_of_ble_eq_true rfl) fun t8 G8 q8 g8 => ?_
              have W20 := W19.same q8
              have s48 : Same G4 G8 := ((q5.trans q6).trans q7).trans q8
              have rb20 := (rb12.same s14).same s48
              have rd20 := (rd12.same s14).same s48
              have g4'' := g4'.same s48
              have g6' := (g6.same q7).same q8
              clear g4' g6 g5 g7 q5 q6 q7 hl1 hl2 W17 W18 W19 W16 r16 e16
              walk_at "sts"
              refine x_mkT (ex := [sp]) (ds := (Stm.near one b oth).ps.cons (.str "nearest")) (Rps.cons (.str _) (Rps.cons (.int _) (Rps.cons rb20 (Rps.cons (.int _) Rps.nil)))) W20.live (Nat.le_of_ble_eq_true rfl) fun t9 G9 q9 g9 => ?_
              have W21 := W20.same q9
              walk_at "sts"
              refine x_mkT (ex := [sp]) (ds := (Stm.sky one).ps.cons (.str "skyline")) (Rps.cons (.str _) (Rps.cons (.int _) Rps.nil)) W21.live (Nat.le_of_ble_eq_true rfl) fun t10 G10 q10 g10 => ?_
              have W22 := W21.same q10
              walk_at "sts"
              refine x_mkL (ex := [sp]) (ds := [(Stm.cond "select" cs one).da, (Stm.cond "count" cs one).da, (Stm.near one b oth).da, (Stm.sky one).da]) (Rps.cons ((g6'.same q9).same q10) (Rps.cons ((g8.same q9).same q10) (Rps.cons (g9.same q10) (Rps.cons g10 Rps.nil)))) W22.live (Nat.le_of_ble_eq_true rfl) fun t11 G11 q11 g11 => ?_
              have W23 := W22.same q11
              walk_at "sts"
              refine x_addLR (((g4''.same q9).same q10).same q11) g11 (Nat.le_of_ble_eq_true rfl) W23.live fun t12 G12 q12 g12 => ?_
              have W24 := W23.same q12
              have s812 : Same G8 G12 := ((q9.trans q10).trans q11).trans q12
              have rb24 := rb20.same s812
              have rd24 := rd20.same s812
              clear g4'' g6' g8 g9 g10 g11 q9 q10 q11 q12 W20 W21 W22 W23 rb20 rd20
              walk_at "sts"
              refine x_mkT (ex := [sp]) (ds := (Stm.dur b one oth).ps.cons (.str "during")) (Rps.cons (.str _) (Rps.cons rb24 (Rps.cons (.int _) (Rps.cons (.int _) Rps.nil)))) W24.live (Nat.le_of_ble_eq_true rfl) fun t13 G13 q13 g13 => ?_
              have W25 := W24.same q13
              walk_at "sts"
              refine x_mkT (ex := [sp]) (ds := (Stm.fst b ns' one oth).ps.cons (.str "first")) (Rps.cons (.str _) (Rps.cons (rb24.same q13) (Rps.cons (rd24.same q13) (Rps.cons (.int _) (Rps.cons (.int _) Rps.nil))))) W25.live (Nat.le_of_ble_eq_true rfl) fun t14 G14 q14 g14 => ?_
              have W26 := W25.same q14
              walk_at "sts"
              refine x_mkT (ex := [sp]) (ds := [.str "commit"]) (Rps.cons (.str _) Rps.nil) W26.live (Nat.le_of_ble_eq_true rfl) fun t15 G15 q15 g15 => ?_
              have W27 := W26.same q15
              walk_at "sts"
              refine x_mkT (ex := [sp]) (ds := [.str "rollback"]) (Rps.cons (.str _) Rps.nil) W27.live (Nat.le_of_ble_eq_true rfl) fun t16 G16 q16 g16 => ?_
              have W28 := W27.same q16
              walk_at "sts"
              refine x_mkL (ex := [sp]) (ds := [(Stm.dur b one oth).da, (Stm.fst b ns' one oth).da, (Stm.one "commit").da, (Stm.one "rollback").da]) (Rps.cons (((g13.same q14).same q15).same q16) (Rps.cons ((g14.same q15).same q16) (Rps.cons (g15.same q16) (Rps.cons g16 Rps.nil)))) W28.live (Nat.le_of_ble_eq_true rfl) fun t17 G17 q17 g17 => ?_
              have W29 := W28.same q17
              walk_at "sts"
              refine x_addLR (((((g12.same q13).same q14).same q15).same q16).same q17) g17 (Nat.le_of_ble_eq_true rfl) W29.live fun t18 G18 q18 g18 => ?_
              have W30 := W29.same q18
              have s1218 : Same G12 G18 := ((((q13.trans q14).trans q15).trans q16).trans q17).trans q18
              have kall : Kp [sp] H G18 := (((k112.same s14).same s48).same s812).same s1218
              clear g12 g13 g14 g15 g16 g17 q13 q14 q15 q16 q17 q18 W24 W25 W26 W27 W28 W29 rb24 rd24
              walk_at "sts"
              have ob' : Bok b ∧ 0 < b.length := ⟨ob.ok, lb⟩
              have oc : CsOk cs := ⟨by omega, o11⟩
              have on : Nok ns' ∧ 0 < ns'.length := ⟨od7.ok, ld7⟩
              have : kd = 0 ∨ kd = 1 ∨ kd = 2 ∨ kd = 3 ∨ kd = 4 ∨ kd = 5 ∨ kd = 6 ∨ kd = 7 ∨ kd = 8 ∨ kd = 9 ∨ kd = 10 := by omega
              rcases this with rfl | rfl | rfl | rfl | rfl | rfl | rfl | rfl | rfl | rfl | rfl
              · exact x_ixR (i := 0) g18 (.inr rfl) rfl rfl fun x rx => k x _ (.put one b sv) kall W30 rx ⟨g3, ob', os⟩
              · exact x_ixR (i := 1) g18 (.inr rfl) rfl rfl fun x rx => k x _ (.drop one) kall W30 rx g3
              · exact x_ixR (i := 2) g18 (.inr rfl) rfl rfl fun x rx => k x _ (.turn one oth ns') kall W30 rx ⟨g3, g4, on⟩
              · exact x_ixR (i := 3) g18 (.inr rfl) rfl rfl fun x rx => k x _ (.cond "select" cs one) kall W30 rx ⟨.inl rfl, oc, g3⟩
              · exact x_ixR (i := 4) g18 (.inr rfl) rfl rfl fun x rx => k x _ (.cond "count" cs one) kall W30 rx ⟨.inr rfl, oc, g3⟩
              · exact x_ixR (i := 5) g18 (.inr rfl) rfl rfl fun x rx => k x _ (.near one b oth) kall W30 rx ⟨g3, ob', g4⟩
              · exact x_ixR (i := 6) g18 (.inr rfl) rfl rfl fun x rx => k x _ (.sky one) kall W30 rx g3
              · exact x_ixR (i := 7) g18 (.inr rfl) rfl rfl fun x rx => k x _ (.dur b one oth) kall W30 rx ⟨ob', g3, g4⟩
              · exact x_ixR (i := 8) g18 (.inr rfl) rfl rfl fun x rx => k x _ (.fst b ns' one oth) kall W30 rx ⟨ob', on, g3, g4⟩
              · exact x_ixR (i := 9) g18 (.inr rfl) rfl rfl fun x rx => k x _ (.one "commit") kall W30 rx (.inl rfl)
              · exact x_ixR (i := 10) g18 (.inr rfl) rfl rfl fun x rx => k x _ (.one "rollback") kall W30 rx (.inr rfl)


/-! ### the law's own texts -/
theorem x_eqS {K : PySem.W.Frag} {x y : Str} {H : Hp} {Q : VK} (q : Q (.bl (decide (x = y))) H) : rEqX K (.str x) (.str y) H Q := .inl ⟨rfl, by
  have e : decide (V.str x = V.str y) = decide (x = y) := by by_cases z : x = y <;> simp [z]
  rw [e]; exact q⟩
theorem map_inv' {α β : Type} {f : α → β} {l : List α} {i : Nat} {y : β} (h : (l.map f)[i]? = some y) : ∃ a, l[i]? = some a ∧ y = f a := by
  rw [List.getElem?_map] at h
  obtain ⟨a, h1, h2⟩ := Option.map_eq_some_iff.mp h
  exact ⟨a, h1, h2.symm⟩
def sp__law_box_text : Sp := fun vs H Q _ => ∃ (ex : List Addr) (v : V) (b : Bx97), vs = [v] ∧ Rp ex H v (bx2D b) ∧ Bok b ∧ ∀ H', Same H H' → Q (.str (bxT b)) H'
theorem x_lbox {ex : List Addr} {v : V} {b : Bx97} {H : Hp} {Q : VK} {E : XK} (h : Rp ex H v (bx2D b)) (o : Bok b) (q : ∀ H', Same H H' → Q (.str (bxT b)) H') : sp__law_box_text [v] H Q E := ⟨ex, v, b, rfl, h, o, q⟩
theorem ok__law_box_text {f : Addr} {fd : FuncData} (F : Fun K "_law_box_text" "_law_box_text" s__law_box_text f fd) (T : Txt K mg w D_READERS D_WORDS V_read_box V_read_condition V_read_conditional V_read_drop V_read_during V_read_first V_read_list V_read_nearest V_read_nothing V_read_number V_read_pair V_read_put V_read_skyline V_read_turn C_Reader tk_ALL tk_MOST_DIGITS)  : FnOk P w K mg base CX0 1 f fd ["box"] sp__law_box_text := by
  refine F.ok sc__law_box_text (fun vs H Q E h => ?_) (fun cdv A outer s H vs Q E hr h => ?_)
  · obtain ⟨ex, v, b, rfl, _⟩ := h
    rfl
  · obtain ⟨ex, v, b, rfl, h, o, k⟩ := h
    refine ⟨_, d__law_box_text hr T , ?_⟩
    unfold t__law_box_text
    refine x_start (σ' := [some v, none, none]) rfl ?_
    obtain ⟨l1, l2⟩ := bxJ_len o
    have l0 := o.1
    walk_at "sts"
    refine x_mklN rfl (by decide) fun p H1 s1 z1 e1 => ?_
    walk_at "sts"
    refine x_loopS (H0 := H) h (.inl rfl) (fun i σ H' => ∃ x2 : Option V, σ = [some v, some (.ref p), x2] ∧ Same H H' ∧ H' p = some (.lst (((b.take i).map prT).map V.str))) ?_ ?_ ?_ ?_
    · exact ⟨_, rfl, s1, e1⟩
    · rintro i σ H' ⟨x2, rfl, s2, e⟩
      exact Same.kp s2
    · rintro i x e σ H' ge ⟨x2, rfl, s2, ep⟩ rx rx0
      obtain ⟨pr, gp, rfl⟩ := map_inv' ge
      have hi := (List.getElem?_eq_some_iff.mp gp).1
      have op := o.2 pr (List.mem_of_getElem? gp)
      have t1 := tI_len op.1
      have t2 := tI_len op.2
      have fin : ∀ y, y = prT pr → Same H (upd H' p (.lst (((b.take i).map prT).map V.str ++ [V.str y]))) ∧ upd H' p (.lst (((b.take i).map prT).map V.str ++ [V.str y])) p = some (.lst (((b.take (i + 1)).map prT).map V.str)) := by
        rintro y rfl
        refine ⟨Same.own s2 z1, ?_⟩
        rw [List.take_add_one, gp, List.map_append, List.map_append]
        exact upd_same
      walk_at "sts"
      refine x_bmL ep ?_
      walk_at "sts"
      refine x_ixR (i := 0) (d' := .int pr.1) rx (.inl rfl) rfl rfl fun y1 r1 => ?_
      cases r1.intI
      walk_at "sts"
      refine x_ixR (i := 1) (d' := .int pr.2) rx (.inl rfl) rfl rfl fun y2 r2 => ?_
      cases r2.intI
      walk_at "sts"
      refine x_dec (fun c => ?_) (fun c => ?_)
      · walk_at "sts"
        refine x_ixR (i := 0) (d' := .int pr.1) rx (.inl rfl) rfl rfl fun y3 r3 => ?_
        cases r3.intI
        walk_at "sts"
        refine x_strI op.1 ?_
        walk_at "sts"
        refine x_app ep (szl (by simp; omega)) ?_
        walk_at "sts"
        obtain ⟨f1, f2⟩ := fin (tI pr.1) (by unfold prT; rw [if_pos c])
        exact ⟨_, rfl, f1, f2⟩
      · walk_at "sts"
        refine x_ixR (i := 0) (d' := .int pr.1) rx (.inl rfl) rfl rfl fun y3 r3 => ?_
        cases r3.intI
        walk_at "sts"
        refine x_strI op.1 ?_
        walk_at "sts"
        refine x_addStr (Nat.le_trans (show _ ≤ 1000000 by rw [len1.2.2.2.1]; omega) (by decide)) ?_
        walk_at "sts"
        refine x_ixR (i := 1) (d' := .int pr.2) rx (.inl rfl) rfl rfl fun y4 r4 => ?_
        cases r4.intI
        walk_at "sts"
        refine x_strI op.2 ?_
        refine x_addStr (Nat.le_trans (show _ ≤ 1000000 by rw [len_addS, len1.2.2.2.1]; omega) (by decide)) ?_
        walk_at "sts"
        refine x_app ep (szl (by simp; omega)) ?_
        walk_at "sts"
        obtain ⟨f1, f2⟩ := fin ((tI pr.1 ++ "..") ++ tI pr.2) (by unfold prT; rw [if_neg c, s_nil])
        exact ⟨_, rfl, f1, f2⟩
    · rintro σ H' ⟨x2, rfl, s2, ep⟩
      rw [List.length_map, List.take_length] at ep
      walk_at "sts"
      refine x_m1S ?_
      walk_at "sts"
      refine x_join ep l1 (by rw [List.length_map, len1.2.2.1]; omega) ?_
      refine x_addStr (Nat.le_trans (show _ ≤ 1000000 by rw [len1.1]; omega) (by decide)) ?_
      walk_at "sts"
      refine x_addStr (Nat.le_trans (show _ ≤ 1000000 by rw [len_addS, len1.1, len1.2.1]; omega) (by decide)) ?_
      exact k _ s2
def sp__law_list_text : Sp := fun vs H Q _ => ∃ (ex : List Addr) (v : V) (ns : List Int), vs = [v] ∧ Rp ex H v (is2D ns) ∧ Nok ns ∧ ∀ H', Same H H' → Q (.str (lsT ns)) H'
theorem x_llist {ex : List Addr} {v : V} {ns : List Int} {H : Hp} {Q : VK} {E : XK} (h : Rp ex H v (is2D ns)) (o : Nok ns) (q : ∀ H', Same H H' → Q (.str (lsT ns)) H') : sp__law_list_text [v] H Q E := ⟨ex, v, ns, rfl, h, o, q⟩
theorem ok__law_list_text {f : Addr} {fd : FuncData} (F : Fun K "_law_list_text" "_law_list_text" s__law_list_text f fd) (T : Txt K mg w D_READERS D_WORDS V_read_box V_read_condition V_read_conditional V_read_drop V_read_during V_read_first V_read_list V_read_nearest V_read_nothing V_read_number V_read_pair V_read_put V_read_skyline V_read_turn C_Reader tk_ALL tk_MOST_DIGITS)  : FnOk P w K mg base CX0 1 f fd ["numbers"] sp__law_list_text := by
  refine F.ok sc__law_list_text (fun vs H Q E h => ?_) (fun cdv A outer s H vs Q E hr h => ?_)
  · obtain ⟨ex, v, ns, rfl, _⟩ := h
    rfl
  · obtain ⟨ex, v, ns, rfl, h, hn, k⟩ := h
    refine ⟨_, d__law_list_text hr T , ?_⟩
    unfold t__law_list_text
    refine x_start (σ' := [some v, none]) rfl ?_
    obtain ⟨a, xs, rfl, n, e, r⟩ := h.seqI (.inl rfl)
    have ex1 := rps_ns r
    subst ex1
    obtain ⟨l1, l2⟩ := lsJ_len hn
    have l0 := hn.1
    walk_at "sts"
    refine x_m1S ?_
    walk_at "sts"
    refine x_lcS e (fun D i H' => Same H H' ∧ H D = none ∧ H' D = some (.lst (((ns.take i).map tI).map V.str))) ?_ ?_ ?_ ?_
    · exact fun D hD => ⟨Same.new (Same.refl _) hD, hD, upd_same⟩
    · exact fun D i H2 z => z.1
    · rintro D i x H' hx ⟨s2, hD, hy⟩
      rw [List.getElem?_map] at hx
      obtain ⟨m, gm, rfl⟩ := Option.map_eq_some_iff.mp hx
      have hi : i < ns.length := (List.getElem?_eq_some_iff.mp gm).1
      walk_at "sts"
      refine ⟨rfl, ?_⟩
      walk_at "sts"
      refine x_strI (hn.2 m (List.mem_of_getElem? gm)) ?_
      refine ⟨_, hy, szl (by simp; omega), Same.own s2 hD, hD, ?_⟩
      have e : ((ns.take (i + 1)).map tI).map V.str = ((ns.take i).map tI).map V.str ++ [V.str (tI m)] := by
        rw [List.take_add_one, gm, List.map_append, List.map_append]
        rfl
      rw [e]
      exact upd_same
    · rintro D H' ⟨s2, hD, hy⟩
      rw [List.length_map, List.take_length] at hy
      walk_at "sts"
      refine x_join hy l1 (by rw [List.length_map, len1.2.2.1]; omega) ?_
      refine x_addStr (Nat.le_trans (show _ ≤ 1000000 by rw [len1.1]; omega) (by decide)) ?_
      walk_at "sts"
      refine x_addStr (Nat.le_trans (show _ ≤ 1000000 by rw [len_addS, len1.1, len1.2.1]; omega) (by decide)) ?_
      exact k _ s2
theorem join_one (a x : Str) : Txt.join a [x] = x := by
  show Builtin.Str.glued a [x] = x
  rw [StrLaws.glued_eq_join]
  rfl
def wtT (cs : List (Str × Bx97)) : Str := Txt.join " and " (if cs.isEmpty then ["all"] else cs.map cdT)
def sp__law_wants_text : Sp := fun vs H Q _ => ∃ (ex : List Addr) (v : V) (cs : List (Str × Bx97)), vs = [v] ∧ Rp ex H v (.tup (cs.map cd2D)) ∧ CsOk cs ∧ ∀ H', Same H H' → Q (.str (wtT cs)) H'
theorem x_lwants {ex : List Addr} {v : V} {cs : List (Str × Bx97)} {H : Hp} {Q : VK} {E : XK} (h : Rp ex H v (.tup (cs.map cd2D))) (o : CsOk cs) (q : ∀ H', Same H H' → Q (.str (wtT cs)) H') : sp__law_wants_text [v] H Q E := ⟨ex, v, cs, rfl, h, o, q⟩
theorem ok__law_wants_text {f : Addr} {fd : FuncData} (F : Fun K "_law_wants_text" "_law_wants_text" s__law_wants_text f fd) (T : Txt K mg w D_READERS D_WORDS V_read_box V_read_condition V_read_conditional V_read_drop V_read_during V_read_first V_read_list V_read_nearest V_read_nothing V_read_number V_read_pair V_read_put V_read_skyline V_read_turn C_Reader tk_ALL tk_MOST_DIGITS) (O__law_box_text : Ok P w K mg base 1 "_law_box_text" ["box"] (sp__law_box_text)) : FnOk P w K mg base CX0 2 f fd ["wants"] sp__law_wants_text := by
  refine F.ok sc__law_wants_text (fun vs H Q E h => ?_) (fun cdv A outer s H vs Q E hr h => ?_)
  · obtain ⟨ex, v, cs, rfl, _⟩ := h
    rfl
  · obtain ⟨ex, v, cs, rfl, h, o, k⟩ := h
    refine ⟨_, d__law_wants_text hr T O__law_box_text, ?_⟩
    unfold t__law_wants_text
    refine x_start (σ' := [some v, none]) rfl ?_
    obtain ⟨j1, j2, j3⟩ := csJ_len o
    have lc := o.1
    obtain ⟨a, xs, rfl, n, e, r⟩ := h.tupI
    have lx : xs.length = cs.length := by rw [r.1, List.length_map]
    walk_at "sts"
    refine x_lenT e ?_
    walk_at "sts"
    rw [lx]
    refine x_dec (fun c => ?_) (fun c => ?_)
    · walk_at "sts"
      have e0 : cs = [] := List.eq_nil_of_length_eq_zero (by omega)
      subst e0
      have z : wtT [] = "all" := join_one _ _
      rw [← z]
      exact k _ (Same.refl H)
    · walk_at "sts"
      refine x_m1S ?_
      walk_at "sts"
      refine x_lcS (.inl e) (fun D i H' => Same H H' ∧ H D = none ∧ H' D = some (.lst (((cs.take i).map cdT).map V.str))) ?_ ?_ ?_ ?_
      · exact fun D hD => ⟨Same.new (Same.refl _) hD, hD, upd_same⟩
      · exact fun D i H2 z => z.1
      · rintro D i x H' hx ⟨s2, hD, hy⟩
        obtain ⟨d0, gd, rd⟩ := rps_at r hx
        obtain ⟨cd, gb, rfl⟩ := map_inv' gd
        have hi := (List.getElem?_eq_some_iff.mp gb).1
        have oc := o.2 cd (List.mem_of_getElem? gb)
        have tb := bxT_len oc.2.1
        have z : cd.1.length ≤ 6 := by
          have hw := oc.1
          unfold wds at hw
          simp only [List.mem_cons, List.not_mem_nil, or_false] at hw
          rcases hw with e | e | e <;> rw [e] <;> decide +kernel
        have rd2 := rd.same s2
        walk_at "sts"
        refine ⟨rfl, ?_⟩
        walk_at "sts"
        refine x_ixR (i := 0) (d' := .str cd.1) rd2 (.inl rfl) rfl rfl fun y1 r1 => ?_
        cases r1.strI
        walk_at "sts"
        refine x_addStr (Nat.le_trans (show _ ≤ 1000000 by rw [len2.1]; omega) (by decide)) ?_
        walk_at "sts"
        refine x_ixR (i := 1) (d' := bx2D cd.2) rd2 (.inl rfl) rfl rfl fun y2 r2 => ?_
        walk_at "sts"
        refine x_lbox r2 oc.2.1 fun H1 s3 => ?_
        refine x_addStr (Nat.le_trans (show _ ≤ 1000000 by rw [len_addS, len2.1]; omega) (by decide)) ?_
        refine ⟨_, s3 _ _ hy, szl (by simp; omega), Same.own (s2.trans s3) hD, hD, ?_⟩
        have e : ((cs.take (i + 1)).map cdT).map V.str = ((cs.take i).map cdT).map V.str ++ [V.str ((cd.1 ++ " ") ++ bxT cd.2)] := by
          rw [List.take_add_one, gb, List.map_append, List.map_append]
          show _ ++ [V.str (cdT cd)] = _
          unfold cdT
          rw [s_nil]
        rw [e]
        exact upd_same
      · rintro D H' ⟨s2, hD, hy⟩
        rw [lx, List.take_length] at hy
        walk_at "sts"
        have ne : cs.isEmpty = false := by cases cs with | nil => exact absurd rfl c | cons => rfl
        have z : wtT cs = Txt.join " and " (cs.map cdT) := by unfold wtT; rw [ne]; rfl
        rw [ne] at j1 j2
        refine x_join hy j1 (by have j2 : (cs.map cdT).length ≤ 20 := j2; rw [len2.2.2.2.2.2.2.2.1]; omega) ?_
        rw [← z]
        exact k _ s2


def sp__law_print : Sp := fun vs H Q _ => ∃ (ex : List Addr) (v : V) (s : Stm), vs = [v] ∧ Rp ex H v s.da ∧ s.Ok ∧ Live ex H ∧ ∀ H', Same H H' → Q (.str s.text) H'
theorem x_lprint {ex : List Addr} {v : V} {s : Stm} {H : Hp} {Q : VK} {E : XK} (h : Rp ex H v s.da) (o : s.Ok) (L : Live ex H) (q : ∀ H', Same H H' → Q (.str s.text) H') : sp__law_print [v] H Q E := ⟨ex, v, s, rfl, h, o, L, q⟩
theorem still_iff (n : Nat) (s : List Int) : (s.length = n ∧ (s.filter fun x => !decide (x = 0)).length = 0) ↔ List.replicate n 0 = s := by
  constructor
  · rintro ⟨h1, h2⟩
    have e0 : (s.filter fun x => !decide (x = 0)) = [] := List.eq_nil_of_length_eq_zero h2
    have all0 : ∀ x, x ∈ s → x = 0 := fun x hx => by
      by_cases c : x = 0
      · exact c
      · have : x ∈ (s.filter fun x => !decide (x = 0)) := List.mem_filter.mpr ⟨hx, by simp [c]⟩
        rw [e0] at this
        cases this
    exact (List.eq_replicate_iff.mpr ⟨h1, all0⟩).symm
  · rintro rfl
    refine ⟨List.length_replicate .., ?_⟩
    rw [List.length_eq_zero_iff, List.filter_eq_nil_iff]
    intro x hx
    rw [List.eq_of_mem_replicate hx]
    decide
theorem lit9 : ("put " : Str) = "put" ++ " " ∧ ("drop " : Str) = "drop" ++ " " ∧ ("turn " : Str) = "turn" ++ " " ∧ ("nearest " : Str) = "nearest" ++ " " ∧ ("skyline at " : Str) = "skyline" ++ (" " ++ "at ") ∧ ("during " : Str) = "during" ++ " " ∧ ("first " : Str) = "first" ++ " " := by decide +kernel
theorem lenL : ("put " : Str).length ≤ 20 ∧ ("drop " : Str).length ≤ 20 ∧ ("turn " : Str).length ≤ 20 ∧ ("nearest " : Str).length ≤ 20 ∧ ("skyline at " : Str).length ≤ 20 ∧ ("during " : Str).length ≤ 20 ∧ ("first " : Str).length ≤ 20 ∧ ("select" : Str).length ≤ 20 ∧ ("count" : Str).length ≤ 20 := by decide +kernel
theorem big {n : Nat} (h : n ≤ 1000000) : n ≤ sizeLine := Nat.le_trans h (by decide)
local macro_rules | `(tactic| walk_at "nm") => `(tactic| (refine x_eqS ?_; walk_at "sts"; refine x_dec (fun z => absurd z (by decide +kernel)) (fun _ => ?_); walk_at "sts"))
set_option maxHeartbeats 4000000 in
theorem ok__law_print {f : Addr} {fd : FuncData} (F : Fun K "_law_print" "_law_print" s__law_print f fd) (T : Txt K mg w D_READERS D_WORDS V_read_box V_read_condition V_read_conditional V_read_drop V_read_during V_read_first V_read_list V_read_nearest V_read_nothing V_read_number V_read_pair V_read_put V_read_skyline V_read_turn C_Reader tk_ALL tk_MOST_DIGITS) (O__law_box_text : Ok P w K mg base 1 "_law_box_text" ["box"] (sp__law_box_text)) (O__law_list_text : Ok P w K mg base 1 "_law_list_text" ["numbers"] (sp__law_list_text)) (O__law_wants_text : Ok P w K mg base 2 "_law_wants_text" ["wants"] (sp__law_wants_text)) : FnOk P w K mg base CX0 3 f fd ["told"] sp__law_print := by
  refine F.ok sc__law_print (fun vs H Q E h => ?_) (fun cdv A outer s H vs Q E hr h => ?_)
  · obtain ⟨ex, v, s, rfl, _⟩ := h
    rfl
  · obtain ⟨ex, v, st, rfl, h, o, L, k⟩ := h
    refine ⟨_, d__law_print hr T O__law_box_text O__law_list_text O__law_wants_text, ?_⟩
    unfold t__law_print
    refine x_start (σ' := [some v, none, none, none, none]) rfl ?_
    obtain ⟨c1, c2, c3, c4, c5, c6, c7, c8, c9⟩ := lenL
    obtain ⟨e1, e2, e3, e4, e5, e6, e7, e8, e9⟩ := len2
    obtain ⟨l1, l2, l3, l4, l5, l6, l7⟩ := lit9
    have fin : ∀ H' z, Same H H' → z = st.text → Q (.str z) H' := fun H' z s e => by rw [e]; exact k _ s
    walk_at "sts"
    refine x_ixR (i := 0) (d' := .str st.wd) h (.inl rfl) rfl rfl fun y r => ?_
    cases r.strI
    walk_at "sts"
    cases st with
    | put kk b sp =>
      have t1 := tI_len o.1
      have t2 := bxT_len o.2.1.1
      have t3 := spT_len o.2.2
      refine x_eqS ?_
      walk_at "sts"
      refine x_dec (fun _ => ?_) (fun z => absurd rfl z)
      walk_at "sts"
      refine x_ixR (i := 1) (d' := .int kk) h (.inl rfl) rfl rfl fun y1 r1 => ?_
      cases r1.intI
      walk_at "sts"
      refine x_strI o.1 ?_
      refine x_addStr (big (by omega)) ?_
      walk_at "sts"
      refine x_addStr (big (by rw [len_addS]; omega)) ?_
      walk_at "sts"
      refine x_ixR (i := 2) (d' := bx2D b) h (.inl rfl) rfl rfl fun y2 r2 => ?_
      walk_at "sts"
      refine x_lbox r2 o.2.1.1 fun H1 s1 => ?_
      refine x_addStr (big (by rw [len_addS, len_addS]; omega)) ?_
      refine x_cutE (fun v H' => v = .str (spT sp) ∧ Same H1 H') ?_ ?_
      · walk_at "sts"
        refine x_ixR (i := 3) (d' := opD sp) (h.same s1) (.inl rfl) rfl rfl fun y3 r3 => ?_
        cases sp with
        | none =>
          cases r3
          walk_at "sts"
          exact ⟨rfl, Same.refl _⟩
        | some ns =>
          have r3 : Rp ex H1 y3 (is2D ns) := r3
          obtain ⟨a, xs, rfl, _⟩ := id r3.tupI
          have ol := (o.2.2 ns rfl).1
          have t4 := lsT_len ol
          walk_at "sts"
          refine x_dec (fun q => nomatch q) (fun _ => ?_)
          walk_at "sts"
          refine x_ixR (i := 3) (d' := is2D ns) (h.same s1) (.inl rfl) rfl rfl fun y4 r4 => ?_
          walk_at "sts"
          refine x_llist r4 ol fun H2 s2 => ?_
          refine x_addStr (big (by omega)) ?_
          exact ⟨by show _ = V.str ((Str.empty ++ " speed ") ++ lsT ns); rw [s_nil], s2⟩
      · rintro v' H2 ⟨rfl, s2⟩
        refine x_addStr (big (by rw [len_addS, len_addS, len_addS]; omega)) ?_
        refine fin _ _ (s1.trans s2) ?_
        show _ = ((Str.empty ++ "put") ++ " ") ++ ((((Str.empty ++ tI kk) ++ " ") ++ bxT b) ++ spT sp)
        rw [l1]
        simp only [s_nil, s_as]
    | drop kk =>
      have t1 := tI_len o
      dsimp only [Stm.wd]
      walk_at "nm"
      refine x_eqS ?_
      walk_at "sts"
      refine x_dec (fun _ => ?_) (fun z => absurd rfl z)
      walk_at "sts"
      refine x_ixR (i := 1) (d' := .int kk) h (.inl rfl) rfl rfl fun y1 r1 => ?_
      cases r1.intI
      walk_at "sts"
      refine x_strI o ?_
      refine x_addStr (big (by omega)) ?_
      refine fin _ _ (Same.refl _) ?_
      show _ = ((Str.empty ++ "drop") ++ " ") ++ tI kk
      rw [l2]
      simp only [s_nil, s_as]
    | turn kk t sp =>
      have t1 := tI_len o.1
      have t2 := tI_len o.2.1
      have t3 := lsT_len o.2.2.1
      dsimp only [Stm.wd]
      walk_at "nm"
      walk_at "nm"
      refine x_eqS ?_
      walk_at "sts"
      refine x_dec (fun _ => ?_) (fun z => absurd rfl z)
      walk_at "sts"
      refine x_ixR (i := 1) (d' := .int kk) h (.inl rfl) rfl rfl fun y1 r1 => ?_
      cases r1.intI
      walk_at "sts"
      refine x_strI o.1 ?_
      refine x_addStr (big (by omega)) ?_
      walk_at "sts"
      refine x_addStr (big (by rw [len_addS]; omega)) ?_
      walk_at "sts"
      refine x_ixR (i := 2) (d' := .int t) h (.inl rfl) rfl rfl fun y2 r2 => ?_
      cases r2.intI
      walk_at "sts"
      refine x_strI o.2.1 ?_
      refine x_addStr (big (by rw [len_addS, len_addS]; omega)) ?_
      walk_at "sts"
      refine x_addStr (big (by rw [len_addS, len_addS, len_addS]; omega)) ?_
      walk_at "sts"
      refine x_ixR (i := 3) (d' := is2D sp) h (.inl rfl) rfl rfl fun y3 r3 => ?_
      walk_at "sts"
      refine x_llist r3 o.2.2.1 fun H1 s1 => ?_
      refine x_addStr (big (by rw [len_addS, len_addS, len_addS, len_addS]; omega)) ?_
      refine fin _ _ s1 ?_
      show _ = ((Str.empty ++ "turn") ++ " ") ++ (((((Str.empty ++ tI kk) ++ " at ") ++ tI t) ++ " speed ") ++ lsT sp)
      rw [l3]
      simp only [s_nil, s_as]
    | cond w' cs t =>
      have t1 : (wtT cs).length ≤ 70000 := (csJ_len o.2.1).2.2
      have t2 := tI_len o.2.2
      rcases o.1 with rfl | rfl
      · dsimp only [Stm.wd]
        walk_at "nm"
        walk_at "nm"
        walk_at "nm"
        refine x_eqS ?_
        walk_at "sts"
        refine x_dec (fun _ => ?_) (fun z => absurd rfl z)
        walk_at "sts"
        refine x_addStr (big (by omega)) ?_
        walk_at "sts"
        refine x_ixR (i := 1) (d' := .tup (cs.map cd2D)) h (.inl rfl) rfl rfl fun y1 r1 => ?_
        walk_at "sts"
        refine x_lwants r1 o.2.1 fun H1 s1 => ?_
        refine x_addStr (big (by rw [len_addS]; omega)) ?_
        walk_at "sts"
        refine x_addStr (big (by rw [len_addS, len_addS]; omega)) ?_
        walk_at "sts"
        refine x_ixR (i := 2) (d' := .int t) (h.same s1) (.inl rfl) rfl rfl fun y2 r2 => ?_
        cases r2.intI
        walk_at "sts"
        refine x_strI o.2.2 ?_
        refine x_addStr (big (by rw [len_addS, len_addS, len_addS]; omega)) ?_
        refine fin _ _ s1 ?_
        show _ = ((Str.empty ++ "select") ++ " ") ++ (wtT cs ++ ((Str.empty ++ " at ") ++ tI t))
        simp only [s_nil, s_as]
      · dsimp only [Stm.wd]
        walk_at "nm"
        walk_at "nm"
        walk_at "nm"
        walk_at "nm"
        refine x_eqS ?_
        walk_at "sts"
        refine x_dec (fun _ => ?_) (fun z => absurd rfl z)
        walk_at "sts"
        refine x_addStr (big (by omega)) ?_
        walk_at "sts"
        refine x_ixR (i := 1) (d' := .tup (cs.map cd2D)) h (.inl rfl) rfl rfl fun y1 r1 => ?_
        walk_at "sts"
        refine x_lwants r1 o.2.1 fun H1 s1 => ?_
        refine x_addStr (big (by rw [len_addS]; omega)) ?_
        walk_at "sts"
        refine x_addStr (big (by rw [len_addS, len_addS]; omega)) ?_
        walk_at "sts"
        refine x_ixR (i := 2) (d' := .int t) (h.same s1) (.inl rfl) rfl rfl fun y2 r2 => ?_
        cases r2.intI
        walk_at "sts"
        refine x_strI o.2.2 ?_
        refine x_addStr (big (by rw [len_addS, len_addS, len_addS]; omega)) ?_
        refine fin _ _ s1 ?_
        show _ = ((Str.empty ++ "count") ++ " ") ++ (wtT cs ++ ((Str.empty ++ " at ") ++ tI t))
        simp only [s_nil, s_as]
    | near m b t =>
      have t1 := tI_len o.1
      have t2 := bxT_len o.2.1.1
      have t3 := tI_len o.2.2
      dsimp only [Stm.wd]
      walk_at "nm"
      walk_at "nm"
      walk_at "nm"
      walk_at "nm"
      walk_at "nm"
      refine x_eqS ?_
      walk_at "sts"
      refine x_dec (fun _ => ?_) (fun z => absurd rfl z)
      walk_at "sts"
      refine x_ixR (i := 1) (d' := .int m) h (.inl rfl) rfl rfl fun y1 r1 => ?_
      cases r1.intI
      walk_at "sts"
      refine x_strI o.1 ?_
      refine x_addStr (big (by omega)) ?_
      walk_at "sts"
      refine x_addStr (big (by rw [len_addS]; omega)) ?_
      walk_at "sts"
      refine x_ixR (i := 2) (d' := bx2D b) h (.inl rfl) rfl rfl fun y2 r2 => ?_
      walk_at "sts"
      refine x_lbox r2 o.2.1.1 fun H1 s1 => ?_
      refine x_addStr (big (by rw [len_addS, len_addS]; omega)) ?_
      walk_at "sts"
      refine x_addStr (big (by rw [len_addS, len_addS, len_addS]; omega)) ?_
      walk_at "sts"
      refine x_ixR (i := 3) (d' := .int t) (h.same s1) (.inl rfl) rfl rfl fun y3 r3 => ?_
      cases r3.intI
      walk_at "sts"
      refine x_strI o.2.2 ?_
      refine x_addStr (big (by rw [len_addS, len_addS, len_addS, len_addS]; omega)) ?_
      refine fin _ _ s1 ?_
      show _ = ((Str.empty ++ "nearest") ++ " ") ++ (((((Str.empty ++ tI m) ++ " to ") ++ bxT b) ++ " at ") ++ tI t)
      rw [l4]
      simp only [s_nil, s_as]
    | sky t =>
      have t1 := tI_len o
      dsimp only [Stm.wd]
      walk_at "nm"
      walk_at "nm"
      walk_at "nm"
      walk_at "nm"
      walk_at "nm"
      walk_at "nm"
      refine x_eqS ?_
      walk_at "sts"
      refine x_dec (fun _ => ?_) (fun z => absurd rfl z)
      walk_at "sts"
      refine x_ixR (i := 1) (d' := .int t) h (.inl rfl) rfl rfl fun y1 r1 => ?_
      cases r1.intI
      walk_at "sts"
      refine x_strI o ?_
      refine x_addStr (big (by omega)) ?_
      refine fin _ _ (Same.refl _) ?_
      show _ = ((Str.empty ++ "skyline") ++ " ") ++ ((Str.empty ++ "at ") ++ tI t)
      rw [l5]
      simp only [s_nil, s_as]
    | dur b x e =>
      have t1 := bxT_len o.1.1
      have t2 := tI_len o.2.1
      have t3 := tI_len o.2.2
      dsimp only [Stm.wd]
      walk_at "nm"
      walk_at "nm"
      walk_at "nm"
      walk_at "nm"
      walk_at "nm"
      walk_at "nm"
      walk_at "nm"
      refine x_eqS ?_
      walk_at "sts"
      refine x_dec (fun _ => ?_) (fun z => absurd rfl z)
      walk_at "sts"
      refine x_ixR (i := 1) (d' := bx2D b) h (.inl rfl) rfl rfl fun y1 r1 => ?_
      walk_at "sts"
      refine x_lbox r1 o.1.1 fun H1 s1 => ?_
      refine x_addStr (big (by omega)) ?_
      walk_at "sts"
      refine x_addStr (big (by rw [len_addS]; omega)) ?_
      walk_at "sts"
      refine x_ixR (i := 2) (d' := .int x) (h.same s1) (.inl rfl) rfl rfl fun y2 r2 => ?_
      cases r2.intI
      walk_at "sts"
      refine x_strI o.2.1 ?_
      refine x_addStr (big (by rw [len_addS, len_addS]; omega)) ?_
      walk_at "sts"
      refine x_addStr (big (by rw [len_addS, len_addS, len_addS]; omega)) ?_
      walk_at "sts"
      refine x_ixR (i := 3) (d' := .int e) (h.same s1) (.inl rfl) rfl rfl fun y3 r3 => ?_
      cases r3.intI
      walk_at "sts"
      refine x_strI o.2.2 ?_
      refine x_addStr (big (by rw [len_addS, len_addS, len_addS, len_addS]; omega)) ?_
      refine fin _ _ s1 ?_
      show _ = ((Str.empty ++ "during") ++ " ") ++ (((((Str.empty ++ bxT b) ++ " from ") ++ tI x) ++ " to ") ++ tI e)
      rw [l6]
      simp only [s_nil, s_as]
    | fst b sp x y =>
      have t1 := bxT_len o.1.1
      have t2 := tI_len o.2.2.1
      have t3 := tI_len o.2.2.2
      have t4 : (spT (rsT b sp)).length ≤ 1509 := spT_len fun ns e => by
        unfold rsT at e
        split at e
        · cases e
        · injection e with e; rw [← e]; exact o.2.1
      have t5 := lsT_len o.2.1.1
      have lsp := o.2.1.1.1
      dsimp only [Stm.wd]
      walk_at "nm"
      walk_at "nm"
      walk_at "nm"
      walk_at "nm"
      walk_at "nm"
      walk_at "nm"
      walk_at "nm"
      walk_at "nm"
      refine x_eqS ?_
      walk_at "sts"
      refine x_dec (fun _ => ?_) (fun z => absurd rfl z)
      walk_at "sts"
      refine x_cutE (fun v H' => v = .bl (decide (List.replicate b.length 0 = sp)) ∧ Same H H') ?_ ?_
      · walk_at "sts"
        refine x_ixR (i := 2) (d' := is2D sp) h (.inl rfl) rfl rfl fun y1 r1 => ?_
        walk_at "sts"
        refine x_lenR r1 (.inl rfl) ?_
        walk_at "sts"
        refine x_ixR (i := 1) (d' := bx2D b) h (.inl rfl) rfl rfl fun y2 r2 => ?_
        walk_at "sts"
        refine x_lenR r2 (.inl rfl) ?_
        walk_at "sts"
        rw [List.length_map, List.length_map]
        refine x_dec (fun q1 => ?_) (fun q1 => ?_)
        · walk_at "sts"
          refine x_ixR (i := 2) (d' := is2D sp) h (.inl rfl) rfl rfl fun y3 r3 => ?_
          walk_at "sts"
          refine x_filS (fo := keepO (fun x : Int => !decide (x = 0)) Da.int sp) (Same H) r3 (.inl rfl) (by rw [keepO_len, List.length_map]) (by rw [List.length_map]; omega) (Same.refl H) (fun H' s => L.same s) (fun H' D o n s => Same.own s n) (fun D i x e H2 N Nx hD ge kp L2 iv rx hN hX => ?_) (fun v' H' kp iv r => ?_)
          · obtain ⟨m, gm, rfl⟩ := map_inv' ge
            cases rx.intI
            have ga := keepO_at (p := fun x : Int => !decide (x = 0)) (F := Da.int) gm
            walk_at "sts"
            refine ⟨rfl, ?_⟩
            walk_at "sts"
            refine x_nite (fun c => ?_) (fun c => ?_)
            · walk_at "sts"
              rw [c] at ga
              exact hN _ _ _ ga Kp.refl iv (.int _)
            · rw [c] at ga
              exact hX _ ga Kp.refl iv
          · rw [keepO_fm] at r
            walk_at "sts"
            refine x_lenR r (.inr rfl) ?_
            rw [List.length_map]
            walk_at "sts"
            refine ⟨?_, iv⟩
            congr 1
            have := still_iff b.length sp
            by_cases c : List.replicate b.length 0 = sp
            · rw [decide_eq_true c, decide_eq_true]
              have := (this.mpr c).2
              omega
            · rw [decide_eq_false c, decide_eq_false]
              intro q2
              exact c (this.mp ⟨by omega, by omega⟩)
        · walk_at "sts"
          refine ⟨?_, Same.refl H⟩
          congr 1
          rw [decide_eq_false]
          intro c
          have := (still_iff b.length sp).mpr c
          omega
      · rintro v' H1 ⟨rfl, s1⟩
        walk_at "sts"
        refine x_cut (fun σ' H' => σ' = [some v, some (.str "first"), some (.bl (decide (List.replicate b.length 0 = sp))), some (.str (spT (rsT b sp))), none] ∧ Same H H') ?_ ?_
        · walk_at "sts"
          refine x_dec (fun c => ?_) (fun c => ?_)
          · walk_at "sts"
            have e : rsT b sp = none := by unfold rsT; rw [if_pos c]
            rw [e]
            exact ⟨rfl, s1⟩
          · walk_at "sts"
            have e : rsT b sp = some sp := by unfold rsT; rw [if_neg c]
            rw [e]
            refine x_ixR (i := 2) (d' := is2D sp) (h.same s1) (.inl rfl) rfl rfl fun y4 r4 => ?_
            walk_at "sts"
            refine x_llist r4 o.2.1.1 fun H2 s2 => ?_
            refine x_addStr (big (by omega)) ?_
            walk_at "sts"
            exact ⟨by show _ = [some v, some (.str "first"), _, some (.str ((Str.empty ++ " speed ") ++ lsT sp)), none]; rw [s_nil]; rfl, s1.trans s2⟩
        · rintro σ' H2 ⟨rfl, s2⟩
          walk_at "sts"
          refine x_ixR (i := 1) (d' := bx2D b) (h.same s2) (.inl rfl) rfl rfl fun y1 r1 => ?_
          walk_at "sts"
          refine x_lbox r1 o.1.1 fun H3 s3 => ?_
          have h3 := (h.same s2).same s3
          refine x_addStr (big (by omega)) ?_
          walk_at "sts"
          refine x_addStr (big (by rw [len_addS]; omega)) ?_
          walk_at "sts"
          refine x_addStr (big (by rw [len_addS, len_addS]; omega)) ?_
          walk_at "sts"
          refine x_ixR (i := 3) (d' := .int x) h3 (.inl rfl) rfl rfl fun y2 r2 => ?_
          cases r2.intI
          walk_at "sts"
          refine x_strI o.2.2.1 ?_
          refine x_addStr (big (by rw [len_addS, len_addS, len_addS]; omega)) ?_
          walk_at "sts"
          refine x_addStr (big (by rw [len_addS, len_addS, len_addS, len_addS]; omega)) ?_
          walk_at "sts"
          refine x_ixR (i := 4) (d' := .int y) h3 (.inl rfl) rfl rfl fun y3 r3 => ?_
          cases r3.intI
          walk_at "sts"
          refine x_strI o.2.2.2 ?_
          refine x_addStr (big (by rw [len_addS, len_addS, len_addS, len_addS, len_addS]; omega)) ?_
          refine fin _ _ (s2.trans s3) ?_
          show _ = ((Str.empty ++ "first") ++ " ") ++ ((((((Str.empty ++ bxT b) ++ spT (rsT b sp)) ++ " from ") ++ tI x) ++ " to ") ++ tI y)
          rw [l7]
          simp only [s_nil, s_as]
    | one w' =>
      rcases o with rfl | rfl
      · dsimp only [Stm.wd]
        walk_at "nm"
        walk_at "nm"
        walk_at "nm"
        walk_at "nm"
        walk_at "nm"
        walk_at "nm"
        walk_at "nm"
        walk_at "nm"
        walk_at "nm"
        exact k _ (Same.refl _)
      · dsimp only [Stm.wd]
        walk_at "nm"
        walk_at "nm"
        walk_at "nm"
        walk_at "nm"
        walk_at "nm"
        walk_at "nm"
        walk_at "nm"
        walk_at "nm"
        walk_at "nm"
        exact k _ (Same.refl _)


/-! ### lists that change in place -/
theorem Rp.inj {ex ex' : List Addr} {H : Hp} {v : V} {d d' : Da} (h : Rp ex H v d) (h' : Rp ex' H v d') : d = d' := by
  induction h generalizing d' with
  | non => cases h'; rfl
  | bl b => cases h'; rfl
  | int i => cases h'; rfl
  | str z => cases h'; rfl
  | @tup a xs ds n e l _ ih =>
    cases h' with
    | @tup _ ys es n' e' l' h2 =>
      rw [e] at e'
      cases e'
      congr 1
      refine List.ext_getElem (by omega) fun i i1 i2 => ?_
      exact ih i (xs[i]'(by omega)) ds[i] (List.getElem?_eq_getElem _) (List.getElem?_eq_getElem _) (h2 i _ es[i] (List.getElem?_eq_getElem _) (List.getElem?_eq_getElem _))
    | @lst _ ys es n' e' l' h2 => rw [e] at e'; cases e'
  | @lst a xs ds n e l _ ih =>
    cases h' with
    | @lst _ ys es n' e' l' h2 =>
      rw [e] at e'
      cases e'
      congr 1
      refine List.ext_getElem (by omega) fun i i1 i2 => ?_
      exact ih i (xs[i]'(by omega)) ds[i] (List.getElem?_eq_getElem _) (List.getElem?_eq_getElem _) (h2 i _ es[i] (List.getElem?_eq_getElem _) (List.getElem?_eq_getElem _))
    | @tup _ ys es n' e' l' h2 => rw [e] at e'; cases e'
mutual
def Da.sz : Da → Nat
  | .tup l => szL l + 1
  | .lst l => szL l + 1
  | _ => 0
def szL : List Da → Nat
  | [] => 0
  | d :: l => d.sz + szL l
end
theorem sz_mem {d : Da} : ∀ {l : List Da} (_ : d ∈ l), d.sz ≤ szL l
  | x :: l, h => by
    rw [szL]
    rcases List.mem_cons.mp h with rfl | h
    · omega
    · have := sz_mem h; omega
theorem sz_lst (l : List Da) : (Da.lst l).sz = szL l + 1 := by rw [Da.sz]
theorem sz_tup (l : List Da) : (Da.tup l).sz = szL l + 1 := by rw [Da.sz]
/-- what is smaller than what stands at a is not changed there -/
theorem Rp.other {ex ex0 : List Addr} {H : Hp} {a : Addr} {D0 : Da} {o : HO} (ha : Rp ex0 H (.ref a) D0) {v : V} {d : Da} (h : Rp ex H v d) : d.sz < D0.sz → Rp ex (upd H a o) v d := by
  induction h with
  | non => intro _; exact .non
  | bl b => intro _; exact .bl b
  | int i => intro _; exact .int i
  | str z => intro _; exact .str z
  | @tup b xs ds n e l h ih =>
    intro z
    rw [sz_tup] at z
    have ne : b ≠ a := fun q => by
      subst q
      have := ha.inj (Rp.tup n e l h)
      rw [this, sz_tup] at z
      omega
    refine .tup n (upd_get' ne e) l fun i x d h1 h2 => ih i x d h1 h2 ?_
    have := sz_mem (List.mem_of_getElem? h2)
    omega
  | @lst b xs ds n e l h ih =>
    intro z
    rw [sz_lst] at z
    have ne : b ≠ a := fun q => by
      subst q
      have := ha.inj (Rp.lst n e l h)
      rw [this, sz_lst] at z
      omega
    refine .lst n (upd_get' ne e) l fun i x d h1 h2 => ih i x d h1 h2 ?_
    have := sz_mem (List.mem_of_getElem? h2)
    omega
theorem rps_other {ex ex0 : List Addr} {H : Hp} {a : Addr} {D0 : Da} {o : HO} (ha : Rp ex0 H (.ref a) D0) {xs : List V} {ds : List Da} (r : Rps ex H xs ds) (h : ∀ d, d ∈ ds → d.sz < D0.sz) : Rps ex (upd H a o) xs ds :=
  ⟨r.1, fun i x d h1 h2 => Rp.other ha (r.2 i x d h1 h2) (h d (List.mem_of_getElem? h2))⟩
theorem sz_in {d : Da} {l : List Da} (h : d ∈ l) : d.sz < (Da.lst l).sz := by
  rw [sz_lst]
  have := sz_mem h
  omega
/-- the same, but where D0 stood E0 may stand -/
inductive Alt (D0 E0 : Da) : Da → Da → Prop
  | here : Alt D0 E0 D0 E0
  | non : Alt D0 E0 .non .non
  | bl (b : Bool) : Alt D0 E0 (.bl b) (.bl b)
  | int (i : Int) : Alt D0 E0 (.int i) (.int i)
  | str (z : Str) : Alt D0 E0 (.str z) (.str z)
  | tup {l l' : List Da} (hl : l'.length = l.length) (h : ∀ (i : Nat) d d', l[i]? = some d → l'[i]? = some d' → Alt D0 E0 d d') : Alt D0 E0 (.tup l) (.tup l')
  | lst {l l' : List Da} (hl : l'.length = l.length) (h : ∀ (i : Nat) d d', l[i]? = some d → l'[i]? = some d' → Alt D0 E0 d d') : Alt D0 E0 (.lst l) (.lst l')
theorem alt_row {D0 E0 : Da} {ex : List Addr} {H' : Hp} : ∀ {xs : List V} {ds : List Da} (_ : xs.length = ds.length) (_ : ∀ (i : Nat) (x : V) (d : Da), xs[i]? = some x → ds[i]? = some d → ∃ d', Rp ex H' x d' ∧ Alt D0 E0 d d'), ∃ ds', ds'.length = ds.length ∧ Rps ex H' xs ds' ∧ ∀ (i : Nat) d d', ds[i]? = some d → ds'[i]? = some d' → Alt D0 E0 d d'
  | [], [], _, _ => ⟨[], rfl, Rps.nil, fun i d d' h => by cases h⟩
  | x :: xs, d :: ds, hl, h => by
    obtain ⟨e, r1, a1⟩ := h 0 x d rfl rfl
    obtain ⟨es, l2, r2, a2⟩ := alt_row (xs := xs) (ds := ds) (by simpa using hl) fun i y f h1 h2 => h (i + 1) y f h1 h2
    refine ⟨e :: es, by simp [l2], Rps.cons r1 r2, fun i f f' h1 h2 => ?_⟩
    cases i with
    | zero => cases h1; cases h2; exact a1
    | succ i => exact a2 i f f' h1 h2
theorem Rp.alt {ex ex0 : List Addr} {H : Hp} {a : Addr} {D0 E0 : Da} {o : HO} (ha : Rp ex0 H (.ref a) D0) (hE : Rp ex (upd H a o) (.ref a) E0) {v : V} {d : Da} (h : Rp ex H v d) : ∃ d', Rp ex (upd H a o) v d' ∧ Alt D0 E0 d d' := by
  induction h with
  | non => exact ⟨_, .non, .non⟩
  | bl b => exact ⟨_, .bl b, .bl b⟩
  | int i => exact ⟨_, .int i, .int i⟩
  | str z => exact ⟨_, .str z, .str z⟩
  | @tup b xs ds n e l h ih =>
    by_cases q : b = a
    · subst q
      have := ha.inj (Rp.tup n e l h)
      rw [← this]
      exact ⟨E0, hE, .here⟩
    · obtain ⟨es, l2, r2, a2⟩ := alt_row l ih
      exact ⟨.tup es, rps_tup r2 n (upd_get' q e), .tup l2 a2⟩
  | @lst b xs ds n e l h ih =>
    by_cases q : b = a
    · subst q
      have := ha.inj (Rp.lst n e l h)
      rw [← this]
      exact ⟨E0, hE, .here⟩
    · obtain ⟨es, l2, r2, a2⟩ := alt_row l ih
      exact ⟨.lst es, rps_lst r2 n (upd_get' q e), .lst l2 a2⟩
/-- lists and nothing but, so deep -/
inductive Ls : Nat → Da → Prop
  | non {n} : Ls (n + 1) .non
  | bl {n} (b : Bool) : Ls (n + 1) (.bl b)
  | int {n} (i : Int) : Ls (n + 1) (.int i)
  | str {n} (s : Str) : Ls (n + 1) (.str s)
  | lst {n} {l : List Da} (hl : l.length ≤ 1000) (h : ∀ d, d ∈ l → Ls n d) : Ls (n + 1) (.lst l)
theorem Ls.of {n : Nat} {d : Da} (h : Dn n d) : Ls n d.listed := by
  induction h with
  | non => exact .non
  | bl b => exact .bl b
  | int i => exact .int i
  | str s => exact .str s
  | @tup n l hl h ih =>
    rw [listed_tup]
    refine .lst (by rw [List.length_map]; exact hl) fun d hd => ?_
    obtain ⟨e, he, rfl⟩ := List.mem_map.mp hd
    exact ih e he
theorem Ls.un {n : Nat} {d : Da} (h : Ls n d) : ∃ e, Dn n e ∧ d = e.listed := by
  induction h with
  | non => exact ⟨.non, .non, rfl⟩
  | bl b => exact ⟨.bl b, .bl b, rfl⟩
  | int i => exact ⟨.int i, .int i, rfl⟩
  | str s => exact ⟨.str s, .str s, rfl⟩
  | @lst n l hl h ih =>
    obtain ⟨es, e1, e2⟩ := of_all (F := Da.listed) (G := Dn n) (fs := l) fun i f hf => by
      obtain ⟨e, he, hx⟩ := ih f (List.mem_of_getElem? hf)
      exact ⟨e, hx, he⟩
    refine ⟨.tup es, .tup (by rw [e1, List.length_map] at hl; exact hl) e2, ?_⟩
    rw [listed_tup, e1]
theorem Alt.ls {D0 E0 d d' : Da} (hE : ∀ k, Ls k D0 → Ls k E0) (h : Alt D0 E0 d d') : ∀ {k : Nat}, Ls k d → Ls k d' := by
  induction h with
  | here => intro k z; exact hE k z
  | non => intro k z; exact z
  | bl b => intro k z; exact z
  | int i => intro k z; exact z
  | str s => intro k z; exact z
  | tup hl h ih => intro k z; cases z
  | @lst l l' hl h ih =>
    intro k z
    cases z with
    | @lst n _ hl2 h2 =>
      refine .lst (by omega) fun d' hd' => ?_
      obtain ⟨i, hi⟩ := List.mem_iff_getElem?.mp hd'
      have li : i < l.length := by
        have := (List.getElem?_eq_some_iff.mp hi).1
        omega
      have gi : l[i]? = some l[i] := List.getElem?_eq_getElem li
      exact ih i _ d' gi hi (h2 _ (List.mem_of_getElem? gi))
theorem Alt.lstI {D0 E0 d' : Da} {l : List Da} (h : Alt D0 E0 (.lst l) d') (n : D0 ≠ .lst l) : ∃ l', d' = .lst l' ∧ l'.length = l.length ∧ ∀ (i : Nat) d e, l[i]? = some d → l'[i]? = some e → Alt D0 E0 d e := by
  cases h with
  | here => exact absurd rfl n
  | lst hl h => exact ⟨_, rfl, hl, h⟩
theorem Alt.strI {D0 E0 d' : Da} {z : Str} (h : Alt D0 E0 (.str z) d') (n : D0 ≠ .str z) : d' = .str z := by
  cases h with
  | here => exact absurd rfl n
  | str => rfl
theorem Alt.intI {D0 E0 d' : Da} {z : Int} (h : Alt D0 E0 (.int z) d') (n : D0 ≠ .int z) : d' = .int z := by
  cases h with
  | here => exact absurd rfl n
  | int => rfl
theorem rps_inj {ex ex' : List Addr} {H : Hp} {xs : List V} {ds : List Da} {i : Nat} {x : V} {d e : Da} (r : Rps ex H xs ds) (hx : xs[i]? = some x) (hd : ds[i]? = some d) (h : Rp ex' H x e) : d = e := (r.2 i x d hx hd).inj h


/-! ### statements spoilt: pure -/
theorem whD_listed (d : Da) : whD d.listed = whD d := by cases d <;> rfl
theorem wdD_listed (d : Da) : wdD d.listed = wdD d := by cases d <;> rfl
theorem rwL_listed (l : List Da) : rwL (l.map Da.listed) = rwL l := by
  unfold rwL
  rw [List.length_map, List.map_map]
  have e : (whD ∘ Da.listed) = whD := funext whD_listed
  rw [e]
theorem rwD_listed {n : Nat} {d : Da} (h : Dn n d) : rwD d.listed = rwD d := by
  cases h with
  | tup hl hd => rw [listed_tup]; exact rwL_listed _
  | _ => rfl
theorem rnD_listed {n : Nat} {d : Da} (h : Dn n d) : rnD d.listed = rnD d := by
  cases h with
  | tup hl hd => rw [listed_tup]; exact rwL_listed _
  | _ => rfl
theorem len_listed {n : Nat} {d : Da} (h : Dn n d) : d.listed.len = d.len := by
  cases h with
  | tup hl hd => rw [listed_tup]; exact List.length_map ..
  | _ => rfl
theorem prD_listed {n : Nat} {d : Da} (h : Dn n d) : prD d.listed = prD d := by
  unfold prD
  rw [rwD_listed h, len_listed h]
theorem arD_listed {n : Nat} {d : Da} (h : Dn n d) : arD d.listed = arD d := by
  cases h with
  | @tup n l hl hd =>
    rw [listed_tup]
    show arL (l.map Da.listed) = arL l
    unfold arL
    rw [List.length_map, List.map_map]
    have e : l.map (prD ∘ Da.listed) = l.map prD := List.map_congr_left fun d h => prD_listed (hd d h)
    rw [e]
  | _ => rfl
theorem dmD_listed {n : Nat} {d : Da} (h : Dn n d) : dmD d.listed = dmD d := by
  cases h with
  | @tup n l hl hd =>
    rw [listed_tup]
    show dmL (l.map Da.listed) = dmL l
    match l, hd with
    | [], _ => rfl
    | [_], _ => rfl
    | [w, b], hd =>
      show (wdD w.listed && arD b.listed) = (wdD w && arD b)
      rw [wdD_listed, arD_listed (hd b (by simp))]
    | _ :: _ :: _ :: _, _ => rfl
  | _ => rfl
theorem dsD_listed {n : Nat} {d : Da} (h : Dn n d) : dsD d.listed = dsD d := by
  cases h with
  | @tup n l hl hd =>
    rw [listed_tup]
    show dsL (l.map Da.listed) = dsL l
    unfold dsL
    rw [List.map_map]
    have e : l.map (dmD ∘ Da.listed) = l.map dmD := List.map_congr_left fun d h => dmD_listed (hd d h)
    rw [e]
  | _ => rfl
theorem ck_listed {n m : Nat} {d : Da} (h : Dn m d) : ckF n d.listed = ckF n d := by
  match n with
  | 0 => exact whD_listed d
  | 1 => exact arD_listed h
  | 2 => exact rnD_listed h
  | 3 => exact rwD_listed h
  | _ + 4 => exact dsD_listed h
theorem st_listed {m : Nat} {d : Da} (h : Dn m d) : stD d.listed = stD d := by
  cases h with
  | @tup n l hl hd =>
    rw [listed_tup]
    show stL (l.map Da.listed) = stL l
    match l, hd with
    | [], _ => rfl
    | e :: ps, hd =>
      cases e with
      | str z =>
        show (decide (z ∈ kys) && (decide ((ps.map Da.listed).length = (cdOf z).length) && (((cdOf z).zip (ps.map Da.listed)).map fun p => ckF p.1 p.2).all id)) = (decide (z ∈ kys) && (decide (ps.length = (cdOf z).length) && (((cdOf z).zip ps).map fun p => ckF p.1 p.2).all id))
        rw [List.length_map, List.zip_map_right, List.map_map]
        have e : ((cdOf z).zip ps).map ((fun p : Nat × Da => ckF p.1 p.2) ∘ Prod.map id Da.listed) = ((cdOf z).zip ps).map fun p => ckF p.1 p.2 := List.map_congr_left fun p hp => ck_listed (hd p.2 (List.mem_cons_of_mem _ (List.of_mem_zip (a := p.1) (b := p.2) hp).2))
        rw [e]
      | tup l => rw [List.map_cons, listed_tup]; rfl
      | _ => rfl
  | _ => rfl
theorem Dn.sq {n : Nat} {d : Da} (h : Dn n d) : Sq n d := by
  induction h with
  | non => exact .non
  | bl b => exact .bl b
  | int i => exact .int i
  | str s => exact .str s
  | tup hl _ ih => exact .tup hl ih
theorem Ls.sq {n : Nat} {d : Da} (h : Ls n d) : Sq n d := by
  induction h with
  | non => exact .non
  | bl b => exact .bl b
  | int i => exact .int i
  | str s => exact .str s
  | lst hl _ ih => exact .lst hl ih
theorem Ls.mono {n m : Nat} {d : Da} (h : Ls n d) : n ≤ m → Ls m d := by
  induction h generalizing m with
  | non => intro hm; obtain ⟨k, rfl⟩ : ∃ k, m = k + 1 := ⟨m - 1, by omega⟩; exact .non
  | bl b => intro hm; obtain ⟨k, rfl⟩ : ∃ k, m = k + 1 := ⟨m - 1, by omega⟩; exact .bl b
  | int i => intro hm; obtain ⟨k, rfl⟩ : ∃ k, m = k + 1 := ⟨m - 1, by omega⟩; exact .int i
  | str s => intro hm; obtain ⟨k, rfl⟩ : ∃ k, m = k + 1 := ⟨m - 1, by omega⟩; exact .str s
  | lst hl _ ih => intro hm; obtain ⟨k, rfl⟩ : ∃ k, m = k + 1 := ⟨m - 1, by omega⟩; exact .lst hl fun d hd => ih d hd (by omega)
/-- the words and the first texts of what is asked -/
def FqW (d : Da) : Prop := ∀ e ps, d.seq (e :: ps) → ∀ z, e = .str z → (z ∈ kys ∨ z ∈ offs) ∧ (z = "select" ∨ z = "count" → ∀ c t, ps = [c, t] → ∀ cs, c.seq cs → ∀ e, e ∈ cs → FcD e)
def Spo (e : Da) : Prop := Dn 8 e ∧ Fq e ∧ Fq e.listed ∧ stD e = false ∧ stD e.listed = false
theorem unFc {e : Da} (h : FcD e.listed) : FcD e := by
  cases e with
  | tup l =>
    rw [listed_tup] at h
    intro w b hs
    rcases hs with hs | hs
    · injection hs with hs
      subst hs
      obtain ⟨z, hz⟩ := h w.listed b.listed (.inr rfl)
      cases w with
      | tup l => rw [listed_tup] at hz; cases hz
      | str s => exact ⟨s, rfl⟩
      | _ => cases hz
    · cases hs
  | _ => exact h
theorem wrong_fin {d : Da} (hL : Ls 8 d) (hF : FqW d) (hq : stD d = false) : ∃ e, d = e.listed ∧ Spo e := by
  obtain ⟨e, de, rfl⟩ := hL.un
  refine ⟨e, rfl, de, ⟨⟨8, de.sq⟩, ?_⟩, ⟨⟨8, hL.sq⟩, hF⟩, by rw [← st_listed de]; exact hq, hq⟩
  cases de with
  | @tup _ l hl hp =>
    rw [listed_tup] at hF
    intro x ps hs z hz
    rcases hs with hs | hs
    · injection hs with hs
      subst hs
      subst hz
      obtain ⟨f1, f2⟩ := hF (.str z) (ps.map Da.listed) (.inr rfl) z rfl
      refine ⟨f1, fun k c t e cs hcs y hy => ?_⟩
      subst e
      have dc := hp c (by simp)
      rcases hcs with rfl | rfl
      · exact unFc (f2 k (Da.tup cs).listed t.listed rfl (cs.map Da.listed) (.inr (listed_tup cs)) y.listed (List.mem_map.mpr ⟨y, hy, rfl⟩))
      · cases dc
    · cases hs
  | _ =>
    intro x ps hs
    rcases hs with hs | hs <;> cases hs
/-- a part of a statement by its code -/
def PtK (n : Nat) (d : Da) : Prop := (n = 0 ∧ ∃ i, d = .int i ∧ Sm i) ∨ (n = 1 ∧ ∃ b, d = bx2D b ∧ Bok b ∧ 0 < b.length) ∨ ((n = 2 ∨ n = 3) ∧ ∃ ns, d = is2D ns ∧ Nok ns ∧ 0 < ns.length) ∨ (n = 2 ∧ d = .non) ∨ (n = 4 ∧ ∃ cs, d = .tup (cs.map cd2D) ∧ CsOk cs)
theorem cds : cdOf "put" = [0, 1, 2] ∧ cdOf "drop" = [0] ∧ cdOf "turn" = [0, 0, 3] ∧ cdOf "select" = [4, 0] ∧ cdOf "count" = [4, 0] ∧ cdOf "nearest" = [0, 1, 0] ∧ cdOf "skyline" = [0] ∧ cdOf "during" = [1, 0, 0] ∧ cdOf "first" = [1, 3, 0, 0] ∧ cdOf "commit" = [] ∧ cdOf "rollback" = [] := by decide +kernel
theorem of_two {ns : List Nat} {ds : List Da} (h : ns.length = ds.length ∧ ∀ p, p ∈ ns.zip ds → PtK p.1 p.2) : ds.length = ns.length ∧ ∀ (j : Nat) (d : Da), ds[j]? = some d → ∃ n, ns[j]? = some n ∧ PtK n d := by
  refine ⟨h.1.symm, fun j d hd => ?_⟩
  have hj : j < ns.length := by rw [h.1]; exact (List.getElem?_eq_some_iff.mp hd).1
  refine ⟨ns[j], List.getElem?_eq_getElem hj, h.2 (ns[j], d) (List.mem_of_getElem? (i := j) ?_)⟩
  rw [List.getElem?_zip_eq_some]
  exact ⟨List.getElem?_eq_getElem hj, hd⟩
theorem part_of {s : Stm} (o : s.Ok) : s.ps.length = (cdOf s.wd).length ∧ ∀ (j : Nat) (d : Da), s.ps[j]? = some d → ∃ n, (cdOf s.wd)[j]? = some n ∧ PtK n d := by
  obtain ⟨c1, c2, c3, c4, c5, c6, c7, c8, c9, c10, c11⟩ := cds
  have pi : ∀ i, Sm i → PtK 0 (.int i) := fun i h => .inl ⟨rfl, i, rfl, h⟩
  have pb : ∀ b, (Bok b ∧ 0 < b.length) → PtK 1 (bx2D b) := fun b h => .inr (.inl ⟨rfl, b, rfl, h⟩)
  have p3 : ∀ ns, (Nok ns ∧ 0 < ns.length) → PtK 3 (is2D ns) := fun ns h => .inr (.inr (.inl ⟨.inr rfl, ns, rfl, h⟩))
  have main : ∀ (l : List Nat), cdOf s.wd = l → (l.length = s.ps.length ∧ ∀ p, p ∈ l.zip s.ps → PtK p.1 p.2) → s.ps.length = (cdOf s.wd).length ∧ ∀ (j : Nat) (d : Da), s.ps[j]? = some d → ∃ n, (cdOf s.wd)[j]? = some n ∧ PtK n d := fun l e h => by
    rw [e]
    exact of_two h
  cases s with
  | put k b s =>
    refine main _ c1 ⟨rfl, fun p hp => ?_⟩
    have hp : p ∈ [(0, Da.int k), (1, bx2D b), (2, opD s)] := hp
    simp only [List.mem_cons, List.not_mem_nil, or_false] at hp
    rcases hp with rfl | rfl | rfl
    · exact pi _ o.1
    · exact pb _ o.2.1
    · cases s with
      | none => exact .inr (.inr (.inr (.inl ⟨rfl, rfl⟩)))
      | some ns => exact .inr (.inr (.inl ⟨.inl rfl, ns, rfl, o.2.2 ns rfl⟩))
  | drop k =>
    refine main _ c2 ⟨rfl, fun p hp => ?_⟩
    have hp : p ∈ [(0, Da.int k)] := hp
    rw [List.mem_singleton.mp hp]
    exact pi _ o
  | turn k t s =>
    refine main _ c3 ⟨rfl, fun p hp => ?_⟩
    have hp : p ∈ [(0, Da.int k), (0, Da.int t), (3, is2D s)] := hp
    simp only [List.mem_cons, List.not_mem_nil, or_false] at hp
    rcases hp with rfl | rfl | rfl
    · exact pi _ o.1
    · exact pi _ o.2.1
    · exact p3 _ o.2.2
  | cond w cs t =>
    have go : ∀ p, p ∈ [(4, Da.tup (cs.map cd2D)), (0, Da.int t)] → PtK p.1 p.2 := fun p hp => by
      simp only [List.mem_cons, List.not_mem_nil, or_false] at hp
      rcases hp with rfl | rfl
      · exact .inr (.inr (.inr (.inr ⟨rfl, cs, rfl, o.2.1⟩)))
      · exact pi _ o.2.2
    rcases o.1 with e | e
    · exact main [4, 0] (by show cdOf w = _; rw [e]; exact c4) ⟨rfl, go⟩
    · exact main [4, 0] (by show cdOf w = _; rw [e]; exact c5) ⟨rfl, go⟩
  | near m b t =>
    refine main _ c6 ⟨rfl, fun p hp => ?_⟩
    have hp : p ∈ [(0, Da.int m), (1, bx2D b), (0, Da.int t)] := hp
    simp only [List.mem_cons, List.not_mem_nil, or_false] at hp
    rcases hp with rfl | rfl | rfl
    · exact pi _ o.1
    · exact pb _ o.2.1
    · exact pi _ o.2.2
  | sky t =>
    refine main _ c7 ⟨rfl, fun p hp => ?_⟩
    have hp : p ∈ [(0, Da.int t)] := hp
    rw [List.mem_singleton.mp hp]
    exact pi _ o
  | dur b s e =>
    refine main _ c8 ⟨rfl, fun p hp => ?_⟩
    have hp : p ∈ [(1, bx2D b), (0, Da.int s), (0, Da.int e)] := hp
    simp only [List.mem_cons, List.not_mem_nil, or_false] at hp
    rcases hp with rfl | rfl | rfl
    · exact pb _ o.1
    · exact pi _ o.2.1
    · exact pi _ o.2.2
  | fst b s x y =>
    refine main _ c9 ⟨rfl, fun p hp => ?_⟩
    have hp : p ∈ [(1, bx2D b), (3, is2D s), (0, Da.int x), (0, Da.int y)] := hp
    simp only [List.mem_cons, List.not_mem_nil, or_false] at hp
    rcases hp with rfl | rfl | rfl | rfl
    · exact pb _ o.1
    · exact p3 _ o.2.1
    · exact pi _ o.2.2.1
    · exact pi _ o.2.2.2
  | one w =>
    rcases o with e | e
    · exact main [] (by show cdOf w = _; rw [e]; exact c10) ⟨rfl, fun p hp => by cases hp⟩
    · exact main [] (by show cdOf w = _; rw [e]; exact c11) ⟨rfl, fun p hp => by cases hp⟩
theorem wd_ky {s : Stm} (o : s.Ok) : s.wd ∈ kys := by
  cases s with
  | cond w cs t => rcases o.1 with e | e <;> (show w ∈ kys; rw [e]; decide +kernel)
  | one w => rcases o with e | e <;> (show w ∈ kys; rw [e]; decide +kernel)
  | put => show ("put" : Str) ∈ kys; decide +kernel
  | drop => show ("drop" : Str) ∈ kys; decide +kernel
  | turn => show ("turn" : Str) ∈ kys; decide +kernel
  | near => show ("nearest" : Str) ∈ kys; decide +kernel
  | sky => show ("skyline" : Str) ∈ kys; decide +kernel
  | dur => show ("during" : Str) ∈ kys; decide +kernel
  | fst => show ("first" : Str) ∈ kys; decide +kernel
theorem wh_ok {i : Int} (h : Sm i) : whD (.int i) = true := by
  unfold Sm at h
  show (decide (-999999999999 ≤ i) && decide (i ≤ 999999999999)) = true
  rw [decide_eq_true (by omega), decide_eq_true (by omega)]
  rfl
theorem rw_ok {ns : List Int} (h : Nok ns) (h0 : 0 < ns.length) : rwL (ns.map Da.int) = true := by
  unfold rwL
  rw [List.length_map, decide_eq_true (by omega), Bool.true_and, List.all_eq_true]
  intro b hb
  obtain ⟨d, hd, rfl⟩ := List.mem_map.mp hb
  obtain ⟨x, hx, rfl⟩ := List.mem_map.mp hd
  exact wh_ok (h.2 x hx)
theorem ar_ok {b : Bx97} (h : Bok b) (h0 : 0 < b.length) : arD (bx2D b) = true := by
  show arL (b.map pr2D) = true
  unfold arL
  rw [List.length_map, decide_eq_false (by omega), Bool.not_false, Bool.true_and, List.all_eq_true]
  intro c hc
  obtain ⟨d, hd, rfl⟩ := List.mem_map.mp hc
  obtain ⟨p, hp, rfl⟩ := List.mem_map.mp hd
  have hh := h.2 p hp
  show (rwL [.int p.1, .int p.2] && true) = true
  rw [Bool.and_true]
  exact rw_ok (ns := [p.1, p.2]) ⟨by simp, fun n hn => by simp only [List.mem_cons, List.not_mem_nil, or_false] at hn; rcases hn with e | e; (· rw [e]; exact hh.1); (· rw [e]; exact hh.2)⟩ (by simp)
theorem ck_ok {n : Nat} {d : Da} (h : PtK n d) : ckF n d = true := by
  rcases h with ⟨rfl, i, rfl, h⟩ | ⟨rfl, b, rfl, h, h0⟩ | ⟨rfl | rfl, ns, rfl, h, h0⟩ | ⟨rfl, rfl⟩ | ⟨rfl, cs, rfl, h⟩
  · exact wh_ok h
  · exact ar_ok h h0
  · exact rw_ok h h0
  · exact rw_ok h h0
  · rfl
  · show dsL (cs.map cd2D) = true
    unfold dsL
    rw [List.all_eq_true]
    intro c hc
    obtain ⟨d, hd, rfl⟩ := List.mem_map.mp hc
    obtain ⟨x, hx, rfl⟩ := List.mem_map.mp hd
    have hh := h.2 x hx
    show (decide (x.1 ∈ wds) && arD (bx2D x.2)) = true
    rw [decide_eq_true hh.1, ar_ok hh.2.1 hh.2.2]
    rfl
theorem st_ok {s : Stm} (o : s.Ok) : stD s.da = true := by
  obtain ⟨h1, h2⟩ := part_of o
  show (decide (s.wd ∈ kys) && (decide (s.ps.length = (cdOf s.wd).length) && (((cdOf s.wd).zip s.ps).map fun p => ckF p.1 p.2).all id)) = true
  rw [decide_eq_true (wd_ky o), decide_eq_true h1, Bool.true_and, Bool.true_and, List.all_eq_true]
  intro b hb
  obtain ⟨p, hp, rfl⟩ := List.mem_map.mp hb
  obtain ⟨j, hj⟩ := List.mem_iff_getElem?.mp hp
  rw [List.getElem?_zip_eq_some] at hj
  obtain ⟨n, hn, pk⟩ := h2 j p.2 hj.2
  rw [hj.1] at hn
  cases hn
  exact ck_ok pk
theorem pt_dn {n : Nat} {d : Da} (h : PtK n d) : Dn 5 d := by
  have di : ∀ {k : Nat} (ns : List Int), ns.length ≤ 1000 → Dn (k + 2) (is2D ns) := fun ns hl => .tup (by rw [List.length_map]; exact hl) fun d hd => by
    obtain ⟨i, _, rfl⟩ := List.mem_map.mp hd
    exact .int i
  rcases h with ⟨rfl, i, rfl, h⟩ | ⟨rfl, b, rfl, h, h0⟩ | ⟨_, ns, rfl, h, h0⟩ | ⟨rfl, rfl⟩ | ⟨rfl, cs, rfl, h⟩
  · exact .int i
  · exact (bx_dn h).mono (by decide)
  · exact di ns (by have := h.1; omega)
  · exact .non
  · refine .tup (by rw [List.length_map]; have := h.1; omega) fun d hd => ?_
    obtain ⟨c, hc, rfl⟩ := List.mem_map.mp hd
    refine .tup (Nat.le_of_ble_eq_true rfl) fun d hd => ?_
    simp only [List.mem_cons, List.not_mem_nil, or_false] at hd
    rcases hd with rfl | rfl
    · exact .str _
    · exact bx_dn (h.2 c hc).2.1
theorem ps_pt {s : Stm} (o : s.Ok) {d : Da} (h : d ∈ s.ps) : ∃ n, PtK n d := by
  obtain ⟨j, hj⟩ := List.mem_iff_getElem?.mp h
  obtain ⟨n, _, hn⟩ := (part_of o).2 j d hj
  exact ⟨n, hn⟩
theorem ps_len (s : Stm) : s.ps.length ≤ 4 := by cases s <;> simp [Stm.ps]
theorem st_dn {s : Stm} (o : s.Ok) : Dn 6 s.da := by
  refine .tup (by have := ps_len s; simp; omega) fun d hd => ?_
  rcases List.mem_cons.mp hd with rfl | hd
  · exact .str _
  · obtain ⟨n, hn⟩ := ps_pt o hd
    exact pt_dn hn
theorem fc_cd (c : Str × Bx97) : FcD (cd2D c) := fun w b hs => by
  rcases hs with hs | hs
  · injection hs with hs
    exact ⟨c.1, (List.cons.inj hs).1.symm⟩
  · cases hs
theorem st_fq {s : Stm} (o : s.Ok) : Fq s.da := by
  refine ⟨⟨6, (st_dn o).sq⟩, fun e ps hs z hz => ?_⟩
  rcases hs with hs | hs
  · injection hs with hs
    obtain ⟨h1, h2⟩ := List.cons.inj hs
    rw [hz] at h1
    injection h1 with h1
    subst h1
    refine ⟨.inl (wd_ky o), fun hw c t e cs hcs y hy => ?_⟩
    subst h2
    cases s with
    | cond w' cs' t' =>
      have e : [Da.tup (cs'.map cd2D), .int t'] = [c, t] := e
      injection e with e1 e2
      subst e1
      rcases hcs with hcs | hcs
      · injection hcs with hcs
        subst hcs
        obtain ⟨x, _, rfl⟩ := List.mem_map.mp hy
        exact fc_cd x
      · cases hcs
    | one w' =>
      have e : ([] : List Da) = [c, t] := e
      cases e
    | _ => exfalso; dsimp only [Stm.wd] at hw; rcases hw with hw | hw <;> exact absurd hw (by decide +kernel)
  · cases hs
theorem sp_gen {z : Str} {qs : List Da} {j n : Nat} {E : Da} (hz : z ∈ kys) (hl : qs.length = (cdOf z).length) (hn : (cdOf z)[j]? = some n) (hE : qs[j]? = some E) (hb : ckF n E = false) : stD (.lst (.str z :: qs)) = false := by
  show (decide (z ∈ kys) && (decide (qs.length = (cdOf z).length) && (((cdOf z).zip qs).map fun p => ckF p.1 p.2).all id)) = false
  rw [decide_eq_true hz, decide_eq_true hl, Bool.true_and, Bool.true_and, List.all_eq_false]
  refine ⟨false, List.mem_map.mpr ⟨(n, E), List.mem_of_getElem? (i := j) ?_, hb⟩, by decide⟩
  rw [List.getElem?_zip_eq_some]
  exact ⟨hn, hE⟩
theorem sp_len {z : Str} {qs : List Da} (hl : qs.length ≠ (cdOf z).length) : stD (.lst (.str z :: qs)) = false := by
  show (decide (z ∈ kys) && (decide (qs.length = (cdOf z).length) && _)) = false
  rw [show decide (qs.length = (cdOf z).length) = false from decide_eq_false hl, Bool.false_and, Bool.and_false]
theorem fq_len {z : Str} {qs : List Da} (hz : z ∈ kys) (hl : qs.length ≠ (cdOf z).length) : FqW (.lst (.str z :: qs)) := by
  intro e ps hs y hy
  rcases hs with hs | hs
  · cases hs
  · injection hs with hs
    obtain ⟨h1, h2⟩ := List.cons.inj hs
    rw [hy] at h1
    injection h1 with h1
    subst h1
    refine ⟨.inl hz, fun hw c t e => ?_⟩
    subst h2
    subst e
    exfalso
    apply hl
    rcases hw with rfl | rfl
    · rw [cds.2.2.2.1]; rfl
    · rw [cds.2.2.2.2.1]; rfl
theorem fq_gen {z : Str} {qs : List Da} (hz : z ∈ kys) (h : z = "select" ∨ z = "count" → ∀ c t, qs = [c, t] → ∀ cs, c.seq cs → ∀ e, e ∈ cs → FcD e) : FqW (.lst (.str z :: qs)) := by
  intro e ps hs y hy
  rcases hs with hs | hs
  · cases hs
  · injection hs with hs
    obtain ⟨h1, h2⟩ := List.cons.inj hs
    rw [hy] at h1
    injection h1 with h1
    subst h1
    subst h2
    exact ⟨.inl hz, h⟩
theorem sp_head {E : Da} {qs : List Da} (h : ∀ z, E = .str z → z ∈ offs) : stD (.lst (E :: qs)) = false ∧ FqW (.lst (E :: qs)) := by
  refine ⟨?_, fun e ps hs y hy => ?_⟩
  · cases E with
    | str z =>
      have hz := h z rfl
      have nz : ¬ z ∈ kys := by
        unfold offs at hz
        simp only [List.mem_cons, List.not_mem_nil, or_false] at hz
        rcases hz with rfl | rfl | rfl | rfl <;> decide +kernel
      show (decide (z ∈ kys) && _) = false
      rw [decide_eq_false nz, Bool.false_and]
    | _ => rfl
  · rcases hs with hs | hs
    · cases hs
    · injection hs with hs
      obtain ⟨h1, h2⟩ := List.cons.inj hs
      rw [hy] at h1
      have hz := h y h1
      refine ⟨.inr hz, fun hw => ?_⟩
      exfalso
      unfold offs at hz
      simp only [List.mem_cons, List.not_mem_nil, or_false] at hz
      rcases hw with rfl | rfl <;> revert hz <;> decide +kernel


/-! ### runs and tokens of a text -/
def inB (f l c : Nat) : Bool := decide (f ≤ c) && decide (c ≤ l)
def runE (f l : Nat) (zs : List Nat) (a : Nat) : Nat := a + ((zs.drop a).takeWhile (inB f l)).length
theorem runE_end {f l : Nat} {zs : List Nat} {a : Nat} (h : zs.length ≤ a) : runE f l zs a = a := by
  unfold runE
  rw [List.drop_eq_nil_of_le h]
  rfl
theorem runE_go {f l : Nat} {zs : List Nat} {a c : Nat} (h : zs[a]? = some c) (hc : inB f l c = true) : runE f l zs a = runE f l zs (a + 1) := by
  have ha := (List.getElem?_eq_some_iff.mp h)
  unfold runE
  rw [List.drop_eq_getElem_cons ha.1, ha.2, List.takeWhile_cons, if_pos hc, List.length_cons]
  omega
theorem runE_stop {f l : Nat} {zs : List Nat} {a c : Nat} (h : zs[a]? = some c) (hc : inB f l c = false) : runE f l zs a = a := by
  have ha := (List.getElem?_eq_some_iff.mp h)
  unfold runE
  rw [List.drop_eq_getElem_cons ha.1, ha.2, List.takeWhile_cons, if_neg (by rw [hc]; decide)]
  rfl
theorem runE_le {f l : Nat} {zs : List Nat} {a : Nat} (h : a ≤ zs.length) : a ≤ runE f l zs a ∧ runE f l zs a ≤ zs.length := by
  unfold runE
  have := (List.takeWhile_sublist (inB f l) (l := zs.drop a)).length_le
  rw [List.length_drop] at this
  omega
theorem lt_one (c f : Nat) : (!decide ((⟨#[c]⟩ : Str).cps.toList < (⟨#[f]⟩ : Str).cps.toList)) = decide (f ≤ c) := by
  show (!decide ([c] < [f])) = _
  have : ([c] < [f]) ↔ c < f := by
    constructor
    · intro h
      cases h with
      | rel h => exact h
      | cons h => cases h
    · intro h; exact .rel h
  by_cases q : c < f
  · rw [decide_eq_true (this.mpr q), decide_eq_false (by omega)]; rfl
  · rw [decide_eq_false (fun z => q (this.mp z)), decide_eq_true (by omega)]; rfl
theorem z_len (z : Str) : z.cps.toList.length = z.length := by simp [Str.length]
def sp_run_end : Sp := fun vs H Q _ => ∃ (z : Str) (a f l : Nat), vs = [.str z, .int (a : Int), .str ⟨#[f]⟩, .str ⟨#[l]⟩] ∧ z.length ≤ 100000 ∧ a ≤ z.length ∧ Q (.int (runE f l z.cps.toList a : Nat)) H
theorem ok_run_end {f : Addr} {fd : FuncData} (F : Fun K "run_end" "run_end" s_run_end f fd) (T : Txt K mg w D_READERS D_WORDS V_read_box V_read_condition V_read_conditional V_read_drop V_read_during V_read_first V_read_list V_read_nearest V_read_nothing V_read_number V_read_pair V_read_put V_read_skyline V_read_turn C_Reader tk_ALL tk_MOST_DIGITS)  : FnOk P w K mg base CX0 1 f fd ["text", "at", "first", "last"] sp_run_end := by
  refine F.ok sc_run_end (fun vs H Q E h => ?_) (fun cdv A outer s H vs Q E hr h => ?_)
  · obtain ⟨z, a, f', l, rfl, _⟩ := h
    rfl
  · obtain ⟨z, a, f', l, rfl, hz, ha, k⟩ := h
    refine ⟨_, d_run_end hr T , ?_⟩
    unfold t_run_end
    refine x_start (σ' := [some (.str z), some (.int (a : Int)), some (.str ⟨#[f']⟩), some (.str ⟨#[l]⟩)]) rfl ?_
    refine x_seq ?_
    refine x_while (fun m σ H' => ∃ b : Nat, σ = [some (.str z), some (.int (b : Int)), some (.str ⟨#[f']⟩), some (.str ⟨#[l]⟩)] ∧ H' = H ∧ b ≤ z.length ∧ runE f' l z.cps.toList b = runE f' l z.cps.toList a ∧ m = z.length - b) (z.length - a) ⟨a, rfl, rfl, ha, rfl, rfl⟩ ?_
    rintro m σ H' ⟨b, rfl, rfl, hb, e, rfl⟩
    have fin : runE f' l z.cps.toList b = b → Q (.int (b : Int)) H' := fun q => by rw [← e, q] at k; exact k
    walk_at "sts"
    refine x_lenStr hz ?_
    walk_at "sts"
    refine x_dec (fun c => ?_) (fun c => ?_)
    · have hb' : b < z.cps.toList.length := by rw [z_len]; omega
      have g : z.cps.toList[b]? = some z.cps.toList[b] := List.getElem?_eq_getElem hb'
      generalize z.cps.toList[b] = ch at g
      walk_at "sts"
      refine x_ixStr hz (atI_nat g) ?_
      refine x_leS ?_
      rw [lt_one]
      walk_at "sts"
      refine x_dec (fun c1 => ?_) (fun c1 => ?_)
      · walk_at "sts"
        refine x_leS ?_
        rw [lt_one]
        walk_at "sts"
        refine x_dec (fun c2 => ?_) (fun c2 => ?_)
        · refine ⟨fun σ' H'' => ∃ m', m' < z.length - b ∧ ∃ b : Nat, σ' = [some (.str z), some (.int (b : Int)), some (.str ⟨#[f']⟩), some (.str ⟨#[l]⟩)] ∧ H'' = H' ∧ b ≤ z.length ∧ runE f' l z.cps.toList b = runE f' l z.cps.toList a ∧ m' = z.length - b, fun _ _ z => z, ?_⟩
          walk_at "sts"
          refine ⟨z.length - (b + 1), by omega, b + 1, rfl, rfl, by omega, ?_, rfl⟩
          rw [← e]
          exact (runE_go g (by unfold inB; rw [decide_eq_true c1, decide_eq_true c2]; rfl)).symm
        · walk_at "sts"
          exact fin (runE_stop g (by unfold inB; rw [decide_eq_false c2, Bool.and_false]))
      · walk_at "sts"
        exact fin (runE_stop g (by unfold inB; rw [decide_eq_false c1, Bool.false_and]))
    · walk_at "sts"
      exact fin (runE_end (by rw [z_len]; omega))
theorem cut_tl (z : Str) (a b : Nat) : (cutS z (some (a : Int)) (some (b : Int))).cps.toList = (z.cps.toList.drop (min a z.length)).take (min b z.length - min a z.length) := by
  unfold cutS
  rw [HT.sIx_nat, HT.sIx_nat]
theorem s_ext {a b : Str} (h : a.cps.toList = b.cps.toList) : a = b := TL.ext_tl h
theorem x_seqK {ts tu : TS} {n b c : L2.St → Hp → Prop} {r : VK} {σ : L2.St} {H : Hp} (Mid : L2.St → Hp → Prop) (h : ∀ N : L2.St → Hp → Prop, (∀ σ' H', Mid σ' H' → N σ' H') → ts ⟨N, r, b, c⟩ σ H) (k : ∀ σ' H', Mid σ' H' → tu ⟨n, r, b, c⟩ σ' H') : tSeq ts tu ⟨n, r, b, c⟩ σ H := h _ k
def tokE (zs : List Nat) (a : Nat) : Nat :=
  if inB 97 122 (zs.getD a 0) = true then runE 97 122 zs a
  else if runE 48 57 zs (if zs.getD a 0 = 45 then a + 1 else a) > (if zs.getD a 0 = 45 then a + 1 else a) then runE 48 57 zs (if zs.getD a 0 = 45 then a + 1 else a)
  else if (zs.drop a).take 2 = [46, 46] then a + 2 else a + 1
def sp_token_end : Sp := fun vs H Q _ => ∃ (z : Str) (a : Nat), vs = [.str z, .int (a : Int)] ∧ z.length ≤ 100000 ∧ a < z.length ∧ Q (.int (tokE z.cps.toList a : Nat)) H
theorem x_slS {z : Str} {lo hi : Option Int} {H : Hp} {Q : VK} (h : z.length ≤ 100000) (q : Q (.str (cutS z lo hi)) H) : rSlS (.str z) lo hi H Q := ⟨z, rfl, sz h, q⟩
theorem x_eqZ {K : PySem.W.Frag} {x y : Str} {H : Hp} {Q : VK} (q : Q (.bl (decide (x = y))) H) : rEqX K (.str x) (.str y) H Q := .inl ⟨rfl, by
  have e : decide (V.str x = V.str y) = decide (x = y) := by by_cases z : x = y <;> simp [z]
  rw [e]; exact q⟩
theorem one_eq (c d : Nat) : (⟨#[c]⟩ : Str) = ⟨#[d]⟩ ↔ c = d := ⟨fun h => by injection h with h; injection h with h; injection h, fun h => by rw [h]⟩
theorem ok_token_end {f : Addr} {fd : FuncData} (F : Fun K "token_end" "token_end" s_token_end f fd) (T : Txt K mg w D_READERS D_WORDS V_read_box V_read_condition V_read_conditional V_read_drop V_read_during V_read_first V_read_list V_read_nearest V_read_nothing V_read_number V_read_pair V_read_put V_read_skyline V_read_turn C_Reader tk_ALL tk_MOST_DIGITS) (O_run_end : Ok P w K mg base 1 "run_end" ["text", "at", "first", "last"] (sp_run_end)) : FnOk P w K mg base CX0 2 f fd ["text", "at"] sp_token_end := by
  refine F.ok sc_token_end (fun vs H Q E h => ?_) (fun cdv A outer s H vs Q E hr h => ?_)
  · obtain ⟨z, a, rfl, _⟩ := h
    rfl
  · obtain ⟨z, a, rfl, hz, ha, k⟩ := h
    refine ⟨_, d_token_end hr T O_run_end, ?_⟩
    unfold t_token_end
    refine x_start (σ' := [some (.str z), some (.int (a : Int)), none, none]) rfl ?_
    have ha' : a < z.cps.toList.length := by rw [z_len]; exact ha
    have g : z.cps.toList[a]? = some (z.cps.toList.getD a 0) := by rw [List.getD_eq_getElem?_getD, List.getElem?_eq_getElem ha']; rfl
    have e97 : ("a" : Str) = ⟨#[97]⟩ := by decide +kernel
    have e122 : ("z" : Str) = ⟨#[122]⟩ := by decide +kernel
    have e45 : ("-" : Str) = ⟨#[45]⟩ := by decide +kernel
    have e48 : ("0" : Str) = ⟨#[48]⟩ := by decide +kernel
    have e57 : ("9" : Str) = ⟨#[57]⟩ := by decide +kernel
    have edd : ("..") = (⟨#[46, 46]⟩ : Str) := by decide +kernel
    unfold tokE at k
    generalize z.cps.toList.getD a 0 = c at g k
    refine x_seqK (fun σ' H' => σ' = [some (.str z), some (.int (a : Int)), none, none] ∧ H' = H ∧ inB 97 122 c = false) (fun N hN => ?_) ?_
    · walk_at "sts"
      refine x_ixStr hz (atI_nat g) ?_
      rw [e97]
      refine x_leS ?_
      rw [lt_one]
      walk_at "sts"
      refine x_dec (fun c1 => ?_) (fun c1 => ?_)
      · walk_at "sts"
        rw [e122]
        refine x_leS ?_
        rw [lt_one]
        walk_at "sts"
        refine x_dec (fun c2 => ?_) (fun c2 => ?_)
        · walk_at "sts"
          rw [if_pos (by unfold inB; rw [decide_eq_true c1, decide_eq_true c2]; rfl)] at k
          exact ⟨z, a, 97, 122, rfl, hz, Nat.le_of_lt ha, k⟩
        · walk_at "sts"
          exact hN _ _ ⟨rfl, rfl, by unfold inB; rw [decide_eq_false c2, Bool.and_false]⟩
      · walk_at "sts"
        exact hN _ _ ⟨rfl, rfl, by unfold inB; rw [decide_eq_false c1, Bool.false_and]⟩
    · rintro σ' H' ⟨rfl, rfl, hc⟩
      rw [if_neg (by rw [hc]; decide)] at k
      refine x_cut (fun σ' H'' => σ' = [some (.str z), some (.int (a : Int)), some (.int ((if c = 45 then a + 1 else a : Nat) : Int)), none] ∧ H'' = H') ?_ ?_
      · walk_at "sts"
        refine x_ixStr hz (atI_nat g) ?_
        walk_at "sts"
        refine x_eqZ ?_
        rw [e45]
        walk_at "sts"
        refine x_dec (fun q => ?_) (fun q => ?_)
        · have q := (one_eq _ _).mp q
          walk_at "sts"
          rw [if_pos q]
          exact ⟨rfl, rfl⟩
        · have q := fun z => q ((one_eq _ _).mpr z)
          walk_at "sts"
          rw [if_neg q]
          exact ⟨rfl, rfl⟩
      · rintro σ' H'' ⟨rfl, rfl⟩
        have hd : (if c = 45 then a + 1 else a) ≤ z.length := by split <;> omega
        generalize (if c = 45 then a + 1 else a) = d at k hd
        walk_at "sts"
        rw [e48, e57]
        refine ⟨z, d, 48, 57, rfl, hz, hd, ?_⟩
        walk_at "sts"
        refine x_dec (fun q => ?_) (fun q => ?_)
        · walk_at "sts"
          rw [if_pos (by omega)] at k
          exact k
        · rw [if_neg (by omega)] at k
          walk_at "sts"
          refine x_slS hz ?_
          rw [edd]
          refine x_eqZ ?_
          have key : (cutS z (some (a : Int)) (some ((a : Int) + 2)) = ⟨#[46, 46]⟩) ↔ (z.cps.toList.drop a).take 2 = [46, 46] := by
            have e := cut_tl z a (a + 2)
            rw [show ((a + 2 : Nat) : Int) = (a : Int) + 2 by omega, Nat.min_eq_left (by omega : a ≤ z.length)] at e
            have e2 : (z.cps.toList.drop a).take (min (a + 2) z.length - a) = (z.cps.toList.drop a).take 2 := by
              by_cases q2 : a + 2 ≤ z.length
              · rw [Nat.min_eq_left q2]; congr 1; omega
              · rw [Nat.min_eq_right (by omega), List.take_of_length_le (by rw [List.length_drop, z_len]; omega), List.take_of_length_le (by rw [List.length_drop, z_len]; omega)]
            rw [e2] at e
            constructor
            · intro h; rw [← e, h]
            · intro h; exact s_ext (e.trans h)
          walk_at "sts"
          refine x_dec (fun q => ?_) (fun q => ?_)
          · rw [if_pos (key.mp q)] at k
            walk_at "sts"
            exact k
          · rw [if_neg (fun z => q (key.mpr z))] at k
            walk_at "sts"
            exact k


/-! ### numbers as texts -/
theorem tI_tl (i : Int) : (tI i).cps.toList = if i < 0 then 45 :: TL.numL i.natAbs else TL.numL i.natAbs := by
  by_cases h : i < 0
  · rw [if_pos h]
    have e : (0 : Int) - i = ((i.natAbs : Nat) : Int) := by omega
    show (Str.ofString (toString i)).cps.toList = _
    rw [PyProof.Rows.toString_neg h, e]
    have h1 : (Str.ofString ("-" ++ toString ((i.natAbs : Nat) : Int))).cps.toList = 45 :: (Str.ofString (toString ((i.natAbs : Nat) : Int))).cps.toList := by
      rw [Str.ofString_eq_byList]
      unfold Str.ofStringByList
      simp [String.toList_append]
    rw [h1]
    exact congrArg (fun l => 45 :: l) (TL.tl_num _)
  · rw [if_neg h]
    have e : i = ((i.natAbs : Nat) : Int) := by omega
    show (Str.ofString (toString i)).cps.toList = _
    rw [e]
    exact TL.tl_num _
theorem numL_head : ∀ n : Nat, 0 < n → ∃ c cs, TL.numL n = c :: cs ∧ c ≠ 48 := by
  intro n
  induction n using Nat.strongRecOn with
  | _ n ih =>
    intro h
    by_cases q : n < 10
    · exact ⟨48 + n, [], TL.numL_lt q, by omega⟩
    · obtain ⟨c, cs, e, hc⟩ := ih (n / 10) (by omega) (by omega)
      exact ⟨c, cs ++ [48 + n % 10], by rw [TL.numL_step (by omega), e]; rfl, hc⟩
theorem numL_dig {n c : Nat} (h : c ∈ TL.numL n) : 48 ≤ c ∧ c ≤ 57 := TL.numL_digits n c h
theorem dig_str {l : List Nat} (h : ∀ c, c ∈ l → 48 ≤ c ∧ c ≤ 57) (h0 : l ≠ []) : Txt.isdigit (SX.S l) = true ∧ Txt.isascii (SX.S l) = true := by
  have tl : (SX.S l).cps.toList = l := by show l.toArray.toList = l; simp
  constructor
  · unfold Txt.isdigit
    rw [Bool.and_eq_true]
    refine ⟨?_, ?_⟩
    · rw [decide_eq_true]
      show 0 < (SX.S l).length
      rw [← z_len, tl]
      exact List.length_pos_iff.mpr h0
    · rw [← Array.all_toList, tl, List.all_eq_true]
      intro c hc
      have hh := h c hc
      have : ∀ c, c < 58 → 48 ≤ c → Unicode.isDigit c = true := by decide +kernel
      exact this c (by omega) hh.1
  · have e : Txt.isascii (SX.S l) = l.all (fun c => decide (c < 128)) := by
      unfold Txt.isascii
      rw [← Array.all_toList, tl]
    rw [e, List.all_eq_true]
    intro c hc
    have hh := h c hc
    exact decide_eq_true (by omega)
theorem remp_tI (i : Int) : Txt.removeprefix (tI i) "-" = SX.S (TL.numL i.natAbs) := by
  have ed : ("-" : Str) = ⟨#[45]⟩ := by decide +kernel
  have el : ("-" : Str).length = 1 := by decide +kernel
  rw [StrLaws.removeprefix_eq, el]
  have e := tI_tl i
  have hl : (tI i).length = (tI i).cps.toList.length := (z_len _).symm
  rw [StrLaws.subAt_eq, el, List.drop_zero, ed]
  by_cases h : i < 0
  · rw [if_pos h] at e
    rw [hl, e]
    have c1 : (decide (0 + 1 ≤ (45 :: TL.numL i.natAbs).length) && (List.take 1 (45 :: TL.numL i.natAbs) == (⟨#[45]⟩ : Str).cps.toList)) = true := by
      rw [decide_eq_true (by simp)]
      rfl
    rw [if_pos c1]
    show (⟨((TL.numL i.natAbs).take ((45 :: TL.numL i.natAbs).length - 1)).toArray⟩ : Str) = _
    rw [List.take_of_length_le (by simp)]
  · rw [if_neg h] at e
    have c1 : (decide (0 + 1 ≤ (tI i).length) && ((tI i).cps.toList.take 1 == (⟨#[45]⟩ : Str).cps.toList)) = false := by
      rw [e]
      match hn : TL.numL i.natAbs with
      | [] => exact absurd hn (TL.numL_ne _)
      | c :: cs =>
        have hc := numL_dig (n := i.natAbs) (c := c) (by rw [hn]; simp)
        have : (List.take 1 (c :: cs) == (⟨#[45]⟩ : Str).cps.toList) = false := by
          show ([c] == [45]) = false
          rw [beq_eq_false_iff_ne]
          intro z
          have := (List.cons.inj z).1
          omega
        rw [this, Bool.and_false]
    rw [c1]
    show tI i = _
    exact s_ext (by rw [e])
theorem tI_int {i : Int} (h : Sm i) : PySem.intText? (tI i) = some i := by
  have e := tI_tl i
  have l := tI_len h
  by_cases q : i < 0
  · rw [if_pos q] at e
    have := PySem.intText_neg e (TL.numL_digits _) (TL.numL_ne _) (by omega)
    rw [this, TL.numL_val]
    congr 1
    omega
  · rw [if_neg q] at e
    have := PySem.intText_digits (x := tI i) (by rw [e]; exact TL.numL_digits _) (by rw [e]; exact TL.numL_ne _) (by omega)
    rw [this, e, TL.numL_val]
    congr 1
    omega
theorem tI_zero {i : Int} (h : i ≠ 0) : ∃ c cs, TL.numL i.natAbs = c :: cs ∧ c ≠ 48 := numL_head _ (by omega)
def sp_is_number : Sp := fun vs H Q _ => ∃ i : Int, vs = [.str (tI i)] ∧ Sm i ∧ Q (.bl true) H
theorem x_bm0 {K : PySem.W.Frag} {T : String} {r : V → List V → Hp → VK → Prop} {te : TE} {σ : L2.St} {H : Hp} {Q : VK} (q : te σ H fun x H1 => tyV K T x H1 ∧ r x [] H1 Q) : tBM0 K T r te σ H Q := q
theorem ok_is_number {f : Addr} {fd : FuncData} (F : Fun K "is_number" "is_number" s_is_number f fd) (T : Txt K mg w D_READERS D_WORDS V_read_box V_read_condition V_read_conditional V_read_drop V_read_during V_read_first V_read_list V_read_nearest V_read_nothing V_read_number V_read_pair V_read_put V_read_skyline V_read_turn C_Reader tk_ALL tk_MOST_DIGITS)  : FnOk P w K mg base CX0 1 f fd ["token"] sp_is_number := by
  refine F.ok sc_is_number (fun vs H Q E h => ?_) (fun cdv A outer s H vs Q E hr h => ?_)
  · obtain ⟨i, rfl, _⟩ := h
    rfl
  · obtain ⟨i, rfl, hi, k⟩ := h
    refine ⟨_, d_is_number hr T , ?_⟩
    unfold t_is_number
    refine x_start (σ' := [some (.str (tI i)), none]) rfl ?_
    have l := tI_len hi
    have ln : (TL.numL i.natAbs).length ≤ 12 := TL.numL_len (by decide) hi
    obtain ⟨d1, d2⟩ := dig_str (l := TL.numL i.natAbs) (fun c h => numL_dig h) (TL.numL_ne _)
    have ls : (SX.S (TL.numL i.natAbs)).length = (TL.numL i.natAbs).length := by rw [← z_len]
    walk_at "sts"
    refine ⟨rfl, ?_⟩
    walk_at "sts"
    refine x_remp (by omega) ?_
    rw [remp_tI]
    walk_at "sts"
    refine x_bm0 ?_
    walk_at "sts"
    refine ⟨rfl, _, rfl, rfl, trivial, ?_⟩
    rw [d2]
    walk_at "sts"
    refine x_bm0 ?_
    walk_at "sts"
    refine ⟨rfl, _, rfl, rfl, trivial, ?_⟩
    rw [d1]
    walk_at "sts"
    refine x_lenStr (by rw [ls]; omega) ?_
    rw [ls]
    walk_at "sts"
    refine x_dec (fun c => absurd c (by omega)) (fun _ => ?_)
    walk_at "sts"
    refine x_eqZ ?_
    walk_at "sts"
    by_cases z : i = 0
    · subst z
      refine x_dec (fun _ => ?_) (fun q => absurd (show tI 0 = "0" by decide +kernel) q)
      exact k
    · obtain ⟨c, cs, en, hc⟩ := tI_zero z
      have ne : tI i ≠ "0" := fun q => by
        have e := tI_tl i
        rw [q] at e
        have e0 : ("0" : Str).cps.toList = [48] := by decide +kernel
        rw [e0, en] at e
        split at e
        · cases e
        · exact hc (List.cons.inj e).1.symm
      refine x_dec (fun q => absurd q ne) (fun _ => ?_)
      walk_at "sts"
      have e2 : (SX.S (TL.numL i.natAbs)).cps.toList = c :: cs := by show (TL.numL i.natAbs).toArray.toList = _; rw [en]
      refine x_ixStr (by rw [ls]; omega) (c := c) (by rw [e2]; exact atI_nat (j := 0) (v := c) rfl) ?_
      walk_at "sts"
      refine x_neS ?_
      have e48 : ("0" : Str) = ⟨#[48]⟩ := by decide +kernel
      have : (!decide ((⟨#[c]⟩ : Str) = "0")) = true := by
        rw [e48, decide_eq_false (fun q => hc ((one_eq _ _).mp q))]
        rfl
      rw [this]
      exact k


/-! ### the reader -/
inductive Toks (z : Str) : Nat → List Str → Prop
  | nil : Toks z z.length []
  | cons {a : Nat} {t : Str} {ts : List Str} (h1 : a < z.length) (h2 : tokE z.cps.toList a = a + t.length) (h3 : (z.cps.toList.drop a).take t.length = t.cps.toList) (h4 : a + t.length ≤ z.length) (r : Toks z (runE 32 32 z.cps.toList (a + t.length)) ts) : Toks z a (t :: ts)
def fsR (z : Str) (a : Nat) : List (Str × V) := [("_text", .str z), ("_at", .int (a : Int))]
def Rd9 (H : Hp) (C p : Addr) (z : Str) (ts : List Str) : Prop := z.length ≤ 100000 ∧ ∃ (a : Nat) (dx : Addr), H p = some (.ins C dx (fsR z a)) ∧ Toks z a ts
theorem lk_tx {z : Str} {a : Nat} : List.lookup ("_text" : Str) (fsR z a) = some (.str z) := rfl
theorem lk_at {z : Str} {a : Nat} : List.lookup ("_at" : Str) (fsR z a) = some (.int (a : Int)) := rfl
theorem pf_at {z : Str} {a b : Nat} : putF "_at" (.int (b : Int)) (fsR z a) = fsR z b := rfl
theorem len_fsR {z : Str} {a : Nat} : (fsR z a).length < 1000 := (by decide : 2 < 1000)
theorem x_sf {K : PySem.W.Frag} {ta tv : TE} {f : Str} {σ : L2.St} {H : Hp} {n b c : L2.St → Hp → Prop} {r : VK} (q : tv σ H fun y H1 => ta σ H1 fun x H2 => ∃ a C dx fs, x = .ref a ∧ H2 a = some (.ins C dx fs) ∧ Cls K C ∧ NoAttr K C f ∧ fs.length < 1000 ∧ n σ (upd H2 a (.ins C dx (putF f y fs)))) : sFld K ta tv f ⟨n, r, b, c⟩ σ H := q
theorem x_sfG {K : PySem.W.Frag} {C dx a : Addr} {fs fs' : List (Str × V)} {f : Str} {y : V} {σ : L2.St} {H : Hp} {n : L2.St → Hp → Prop} (h : H a = some (.ins C dx fs)) (k : Cls K C) (na : NoAttr K C f) (l : fs.length < 1000) (e : putF f y fs = fs') (q : ∀ H', Kp [a] H H' → H' a = some (.ins C dx fs') → n σ H') :
    ∃ a' C dx fs, V.ref a = .ref a' ∧ H a' = some (.ins C dx fs) ∧ Cls K C ∧ NoAttr K C f ∧ fs.length < 1000 ∧ n σ (upd H a' (.ins C dx (putF f y fs))) := ⟨a, C, dx, fs, rfl, h, k, na, l, by rw [e]; exact q _ (Kp.refl.mut (List.mem_singleton.mpr rfl)) upd_same⟩
theorem not1' {a p : Addr} (h : a ≠ p) : a ∉ [p] := fun z => h (List.mem_singleton.mp z)
theorem Rd9.same {H H' : Hp} {C p : Addr} {z : Str} {ts : List Str} (h : Rd9 H C p z ts) (s : Same H H') : Rd9 H' C p z ts := by
  obtain ⟨hz, a, dx, hp, t⟩ := h
  exact ⟨hz, a, dx, s _ _ hp, t⟩
theorem Rd9.mut {H : Hp} {C p q : Addr} {o : HO} {z : Str} {ts : List Str} (h : Rd9 H C p z ts) (n : p ≠ q) : Rd9 (upd H q o) C p z ts := by
  obtain ⟨hz, a, dx, hp, t⟩ := h
  exact ⟨hz, a, dx, upd_get' n hp, t⟩
theorem Rd9.ins {H : Hp} {C p : Addr} {z : Str} {ts : List Str} (h : Rd9 H C p z ts) : ∃ (a : Nat) (dx : Addr), H p = some (.ins C dx (fsR z a)) := by
  obtain ⟨_, a, dx, hp, _⟩ := h
  exact ⟨a, dx, hp⟩
theorem Rd9.live {H : Hp} {C p : Addr} {z : Str} {ts : List Str} (h : Rd9 H C p z ts) : Live [p] H := by
  obtain ⟨_, a, dx, hp, _⟩ := h
  exact Live.one hp
theorem sp1 : (" " : Str) = ⟨#[32]⟩ := by decide +kernel
def sp_Reader____init__ (C : Addr) : Sp := fun vs H Q _ => ∃ (p dx : Addr) (z : Str) (ts : List Str), vs = [.ref p, .str z] ∧ H p = some (.ins C dx []) ∧ z.length ≤ 100000 ∧ Toks z (runE 32 32 z.cps.toList 0) ts ∧ ∀ H', Kp [p] H H' → Rd9 H' C p z ts → Q .non H'
theorem ok_Reader____init__ {f : Addr} {fd : FuncData} (F : Fun K "__init__" "Reader.__init__" s_Reader____init__ f fd) (T : Txt K mg w D_READERS D_WORDS V_read_box V_read_condition V_read_conditional V_read_drop V_read_during V_read_first V_read_list V_read_nearest V_read_nothing V_read_number V_read_pair V_read_put V_read_skyline V_read_turn C_Reader tk_ALL tk_MOST_DIGITS) (O_run_end : Ok P w K mg base 1 "run_end" ["text", "at", "first", "last"] (sp_run_end)) : FnOk P w K mg base CX0 2 f fd ["self", "text"] (sp_Reader____init__ C_Reader) := by
  refine F.ok sc_Reader____init__ (fun vs H Q E h => ?_) (fun cdv A outer s H vs Q E hr h => ?_)
  · obtain ⟨p, dx, z, ts, rfl, _⟩ := h
    rfl
  · obtain ⟨p, dx, z, ts, rfl, hp, hz, ht, k⟩ := h
    refine ⟨_, d_Reader____init__ hr T O_run_end, ?_⟩
    unfold t_Reader____init__
    refine x_start (σ' := [some (.ref p), some (.str z)]) rfl ?_
    walk_at "sts"
    refine x_sf ?_
    walk_at "sts"
    refine x_sfG hp T.o_Reader T.f_Reader_text (Nat.le_of_ble_eq_true rfl) rfl fun H1 k1 y1 => ?_
    walk_at "sts"
    refine x_sf ?_
    walk_at "sts"
    rw [sp1]
    refine ⟨z, 0, 32, 32, rfl, hz, Nat.zero_le _, ?_⟩
    walk_at "sts"
    refine x_sfG (σ := []) (n := fun _ H' => Q .non H') y1 T.o_Reader T.f_Reader_at (Nat.le_of_ble_eq_true rfl) rfl fun H2 k2 y2 => ?_
    exact k H2 (k1.trans k2) ⟨hz, _, dx, y2, ht⟩
def sp_Reader__due (C : Addr) : Sp := fun vs H Q _ => ∃ (p : Addr) (z : Str) (ts : List Str), vs = [.ref p] ∧ Rd9 H C p z ts ∧ Q (.str (ts.headD "")) H
theorem x_due {C p : Addr} {z : Str} {ts : List Str} {H : Hp} {Q : VK} {E : XK} (h : Rd9 H C p z ts) (q : Q (.str (ts.headD "")) H) : sp_Reader__due C [.ref p] H Q E := ⟨p, z, ts, rfl, h, q⟩
theorem ok_Reader__due {f : Addr} {fd : FuncData} (F : Fun K "due" "Reader.due" s_Reader__due f fd) (T : Txt K mg w D_READERS D_WORDS V_read_box V_read_condition V_read_conditional V_read_drop V_read_during V_read_first V_read_list V_read_nearest V_read_nothing V_read_number V_read_pair V_read_put V_read_skyline V_read_turn C_Reader tk_ALL tk_MOST_DIGITS) (O_token_end : Ok P w K mg base 2 "token_end" ["text", "at"] (sp_token_end)) : FnOk P w K mg base CX0 3 f fd ["self"] (sp_Reader__due C_Reader) := by
  refine F.ok sc_Reader__due (fun vs H Q E h => ?_) (fun cdv A outer s H vs Q E hr h => ?_)
  · obtain ⟨p, z, ts, rfl, _⟩ := h
    rfl
  · obtain ⟨p, z, ts, rfl, ⟨hz, a, dx, hp, ht⟩, k⟩ := h
    refine ⟨_, d_Reader__due hr T O_token_end, ?_⟩
    unfold t_Reader__due
    refine x_start (σ' := [some (.ref p)]) rfl ?_
    walk_at "sts"
    refine x_fld rfl hp T.o_Reader T.f_Reader_at lk_at ?_
    walk_at "sts"
    refine x_fld rfl hp T.o_Reader T.f_Reader_text lk_tx ?_
    walk_at "sts"
    refine x_lenStr hz ?_
    walk_at "sts"
    cases ht with
    | nil =>
      refine x_dec (fun _ => ?_) (fun c => absurd rfl c)
      walk_at "sts"
      exact k
    | @cons _ t ts h1 h2 h3 h4 r =>
      refine x_dec (fun c => absurd c (by omega)) (fun _ => ?_)
      walk_at "sts"
      refine x_fld rfl hp T.o_Reader T.f_Reader_text lk_tx ?_
      walk_at "sts"
      refine x_fld rfl hp T.o_Reader T.f_Reader_at lk_at ?_
      walk_at "sts"
      refine x_fld rfl hp T.o_Reader T.f_Reader_text lk_tx ?_
      walk_at "sts"
      refine x_fld rfl hp T.o_Reader T.f_Reader_at lk_at ?_
      walk_at "sts"
      refine ⟨z, a, rfl, hz, h1, ?_⟩
      rw [h2]
      walk_at "sts"
      refine x_slS hz ?_
      have e : cutS z (some (a : Int)) (some ((a + t.length : Nat) : Int)) = t := s_ext (by
        rw [cut_tl, Nat.min_eq_left h4, Nat.min_eq_left (Nat.le_of_lt h1), ← h3]
        congr 1
        omega)
      rw [e]
      exact k
def sp_Reader___pass (C : Addr) : Sp := fun vs H Q _ => ∃ (p : Addr) (z t : Str) (ts : List Str), vs = [.ref p, .str t] ∧ Rd9 H C p z (t :: ts) ∧ ∀ H', Kp [p] H H' → Rd9 H' C p z ts → Q .non H'
theorem ok_Reader___pass {f : Addr} {fd : FuncData} (F : Fun K "_pass" "Reader._pass" s_Reader___pass f fd) (T : Txt K mg w D_READERS D_WORDS V_read_box V_read_condition V_read_conditional V_read_drop V_read_during V_read_first V_read_list V_read_nearest V_read_nothing V_read_number V_read_pair V_read_put V_read_skyline V_read_turn C_Reader tk_ALL tk_MOST_DIGITS) (O_run_end : Ok P w K mg base 1 "run_end" ["text", "at", "first", "last"] (sp_run_end)) : FnOk P w K mg base CX0 2 f fd ["self", "token"] (sp_Reader___pass C_Reader) := by
  refine F.ok sc_Reader___pass (fun vs H Q E h => ?_) (fun cdv A outer s H vs Q E hr h => ?_)
  · obtain ⟨p, z, t, ts, rfl, _⟩ := h
    rfl
  · obtain ⟨p, z, t, ts, rfl, ⟨hz, a, dx, hp, ht⟩, k⟩ := h
    refine ⟨_, d_Reader___pass hr T O_run_end, ?_⟩
    unfold t_Reader___pass
    refine x_start (σ' := [some (.ref p), some (.str t)]) rfl ?_
    cases ht with
    | @cons _ _ _ h1 h2 h3 h4 r =>
      refine x_sf ?_
      walk_at "sts"
      refine x_fld rfl hp T.o_Reader T.f_Reader_text lk_tx ?_
      walk_at "sts"
      refine x_fld rfl hp T.o_Reader T.f_Reader_at lk_at ?_
      walk_at "sts"
      refine x_lenStr (by omega) ?_
      walk_at "sts"
      rw [sp1]
      refine ⟨z, a + t.length, 32, 32, rfl, hz, h4, ?_⟩
      walk_at "sts"
      refine x_sfG (σ := []) (n := fun _ H' => Q .non H') hp T.o_Reader T.f_Reader_at len_fsR pf_at fun H1 k1 y1 => ?_
      exact k H1 k1 ⟨hz, _, dx, y1, r⟩
theorem x_ninS {K : PySem.W.Frag} {H : Hp} {Q : VK} {z : Str} {p : Addr} {ws : List Str} (h : SqT K H p (ws.map V.str) ∨ SqL K H p (ws.map V.str)) (q : Q (.bl (!decide (z ∈ ws))) H) : rIn K true (.str z) (.ref p) H Q := ⟨p, _, rfl, h.symm, rfl, flat_strs ws, by
  rw [inV_strs]; exact q⟩
def sp_Reader__take (K : PySem.W.Frag) (C : Addr) : Sp := fun vs H Q _ => ∃ (p q : Addr) (z t : Str) (ts ws : List Str), vs = [.ref p, .ref q] ∧ Rd9 H C p z (t :: ts) ∧ (SqT K H q (ws.map V.str) ∨ SqL K H q (ws.map V.str)) ∧ t ∈ ws ∧ ∀ H', Kp [p] H H' → Rd9 H' C p z ts → Q (.str t) H'
theorem x_takeR {K : PySem.W.Frag} {C p q : Addr} {z t : Str} {ts ws : List Str} {H : Hp} {Q : VK} {E : XK} (h : Rd9 H C p z (t :: ts)) (hq : SqT K H q (ws.map V.str) ∨ SqL K H q (ws.map V.str)) (m : t ∈ ws) (k : ∀ H', Kp [p] H H' → Rd9 H' C p z ts → Q (.str t) H') : sp_Reader__take K C [.ref p, .ref q] H Q E := ⟨p, q, z, t, ts, ws, rfl, h, hq, m, k⟩
theorem ok_Reader__take {f : Addr} {fd : FuncData} (F : Fun K "take" "Reader.take" s_Reader__take f fd) (T : Txt K mg w D_READERS D_WORDS V_read_box V_read_condition V_read_conditional V_read_drop V_read_during V_read_first V_read_list V_read_nearest V_read_nothing V_read_number V_read_pair V_read_put V_read_skyline V_read_turn C_Reader tk_ALL tk_MOST_DIGITS) (O_Reader___pass : OkM CX0 P w K mg base 2 C_Reader "_pass" ["self", "token"] (sp_Reader___pass C_Reader)) (O_Reader__due : OkM CX0 P w K mg base 3 C_Reader "due" ["self"] (sp_Reader__due C_Reader)) : FnOk P w K mg base CX0 4 f fd ["self", "tokens"] (sp_Reader__take K C_Reader) := by
  refine F.ok sc_Reader__take (fun vs H Q E h => ?_) (fun cdv A outer s H vs Q E hr h => ?_)
  · obtain ⟨p, q, z, t, ts, ws, rfl, _⟩ := h
    rfl
  · obtain ⟨p, q, z, t, ts, ws, rfl, hR, hq, m, k⟩ := h
    refine ⟨_, d_Reader__take hr T O_Reader___pass O_Reader__due, ?_⟩
    unfold t_Reader__take
    refine x_start (σ' := [some (.ref p), some (.ref q), none]) rfl ?_
    obtain ⟨a, dx, hp⟩ := hR.ins
    walk_at "sts"
    refine x_m rfl hp rfl ?_
    walk_at "sts"
    refine x_due hR ?_
    walk_at "sts"
    refine x_ninS hq ?_
    have e : (!decide ((t :: ts).headD "" ∈ ws)) = false := by rw [show (t :: ts).headD "" = t from rfl, decide_eq_true m]; rfl
    rw [e]
    walk_at "sts"
    refine x_m rfl hp rfl ?_
    walk_at "sts"
    refine ⟨p, z, t, ts, rfl, hR, fun H1 k1 r1 => ?_⟩
    walk_at "sts"
    exact k H1 k1 r1
def sp_Reader__take_number (C : Addr) : Sp := fun vs H Q _ => ∃ (p : Addr) (z : Str) (i : Int) (ts : List Str), vs = [.ref p] ∧ Rd9 H C p z (tI i :: ts) ∧ Sm i ∧ ∀ H', Kp [p] H H' → Rd9 H' C p z ts → Q (.int i) H'
theorem x_takeN {C p : Addr} {z : Str} {i : Int} {ts : List Str} {H : Hp} {Q : VK} {E : XK} (h : Rd9 H C p z (tI i :: ts)) (hi : Sm i) (k : ∀ H', Kp [p] H H' → Rd9 H' C p z ts → Q (.int i) H') : sp_Reader__take_number C [.ref p] H Q E := ⟨p, z, i, ts, rfl, h, hi, k⟩
theorem ok_Reader__take_number {f : Addr} {fd : FuncData} (F : Fun K "take_number" "Reader.take_number" s_Reader__take_number f fd) (T : Txt K mg w D_READERS D_WORDS V_read_box V_read_condition V_read_conditional V_read_drop V_read_during V_read_first V_read_list V_read_nearest V_read_nothing V_read_number V_read_pair V_read_put V_read_skyline V_read_turn C_Reader tk_ALL tk_MOST_DIGITS) (O_Reader___pass : OkM CX0 P w K mg base 2 C_Reader "_pass" ["self", "token"] (sp_Reader___pass C_Reader)) (O_Reader__due : OkM CX0 P w K mg base 3 C_Reader "due" ["self"] (sp_Reader__due C_Reader)) (O_is_number : Ok P w K mg base 1 "is_number" ["token"] (sp_is_number)) : FnOk P w K mg base CX0 4 f fd ["self"] (sp_Reader__take_number C_Reader) := by
  refine F.ok sc_Reader__take_number (fun vs H Q E h => ?_) (fun cdv A outer s H vs Q E hr h => ?_)
  · obtain ⟨p, z, i, ts, rfl, _⟩ := h
    rfl
  · obtain ⟨p, z, i, ts, rfl, hR, hi, k⟩ := h
    refine ⟨_, d_Reader__take_number hr T O_Reader___pass O_Reader__due O_is_number, ?_⟩
    unfold t_Reader__take_number
    refine x_start (σ' := [some (.ref p), none]) rfl ?_
    obtain ⟨a, dx, hp⟩ := hR.ins
    walk_at "sts"
    refine x_m rfl hp rfl ?_
    walk_at "sts"
    refine x_due hR ?_
    walk_at "sts"
    refine ⟨i, rfl, hi, ?_⟩
    walk_at "sts"
    refine x_m rfl hp rfl ?_
    walk_at "sts"
    refine ⟨p, z, tI i, ts, rfl, hR, fun H1 k1 r1 => ?_⟩
    walk_at "sts"
    have l := tI_len hi
    exact x_intS (tI_int hi) (show (tI i).length ≤ 640 by omega) (k H1 k1 r1)
def sp_Reader__finish (C : Addr) : Sp := fun vs H Q _ => ∃ (p : Addr) (z : Str), vs = [.ref p] ∧ Rd9 H C p z [] ∧ Q .non H
theorem ok_Reader__finish {f : Addr} {fd : FuncData} (F : Fun K "finish" "Reader.finish" s_Reader__finish f fd) (T : Txt K mg w D_READERS D_WORDS V_read_box V_read_condition V_read_conditional V_read_drop V_read_during V_read_first V_read_list V_read_nearest V_read_nothing V_read_number V_read_pair V_read_put V_read_skyline V_read_turn C_Reader tk_ALL tk_MOST_DIGITS)  : FnOk P w K mg base CX0 3 f fd ["self"] (sp_Reader__finish C_Reader) := by
  refine F.ok sc_Reader__finish (fun vs H Q E h => ?_) (fun cdv A outer s H vs Q E hr h => ?_)
  · obtain ⟨p, z, rfl, _⟩ := h
    rfl
  · obtain ⟨p, z, rfl, ⟨hz, a, dx, hp, ht⟩, k⟩ := h
    refine ⟨_, d_Reader__finish hr T , ?_⟩
    unfold t_Reader__finish
    refine x_start (σ' := [some (.ref p)]) rfl ?_
    cases ht
    walk_at "sts"
    refine x_fld rfl hp T.o_Reader T.f_Reader_at lk_at ?_
    walk_at "sts"
    refine x_fld rfl hp T.o_Reader T.f_Reader_text lk_tx ?_
    walk_at "sts"
    refine x_lenStr hz ?_
    walk_at "sts"
    refine x_dec (fun c => absurd c (by omega)) (fun _ => ?_)
    walk_at "sts"
    exact k


/-! ### what is read from tokens -/
theorem x_mkTN {xs : List V} {H : Hp} {Q : VK} (h : xs.length ≤ 100000) (q : ∀ p H', Same H H' → H p = none → H' p = some (.tup xs) → Q (.ref p) H') : mkT xs H Q := ⟨sz h, fun p hp => q p _ (Same.new (Same.refl _) hp) hp upd_same⟩
def prK (q : Int × Int) : List Str := if q.1 = q.2 then [tI q.1] else [tI q.1, "..", tI q.2]
def tlK {α : Type} (k : α → List Str) : List α → List Str
  | [] => ["]"]
  | x :: xs => "," :: (k x ++ tlK k xs)
def serK {α : Type} (k : α → List Str) : List α → List Str
  | [] => []
  | x :: xs => "[" :: (k x ++ tlK k xs)
def Gnum (ts : List Str) (d : Da) (ts' : List Str) : Prop := ∃ i, Sm i ∧ ts = tI i :: ts' ∧ d = .int i
def Gpr (ts : List Str) (d : Da) (ts' : List Str) : Prop := ∃ q : Int × Int, (Sm q.1 ∧ Sm q.2) ∧ ts = prK q ++ ts' ∧ d = pr2D q ∧ ts'.headD "" ≠ ".."
def Glist (ts : List Str) (d : Da) (ts' : List Str) : Prop := ∃ ns, Nok ns ∧ 0 < ns.length ∧ ts = serK (fun i => [tI i]) ns ++ ts' ∧ d = is2D ns
def Gbox (ts : List Str) (d : Da) (ts' : List Str) : Prop := ∃ b, Bok b ∧ 0 < b.length ∧ ts = serK prK b ++ ts' ∧ d = bx2D b
def Gcond (ts : List Str) (d : Da) (ts' : List Str) : Prop := ∃ c : Str × Bx97, c.1 ∈ wds ∧ Bok c.2 ∧ 0 < c.2.length ∧ ts = c.1 :: (serK prK c.2 ++ ts') ∧ d = cd2D c
def sp_rd (C : Addr) (G : List Str → Da → List Str → Prop) : Sp := fun vs H Q _ => ∃ (p : Addr) (z : Str) (ts ts' : List Str) (d : Da), vs = [.ref p] ∧ Rd9 H C p z ts ∧ G ts d ts' ∧ ∀ v H', Kp [p] H H' → Rd9 H' C p z ts' → Rp [p] H' v d → Q v H'
theorem x_rd {C p : Addr} {G : List Str → Da → List Str → Prop} {z : Str} {ts ts' : List Str} {d : Da} {H : Hp} {Q : VK} {E : XK} (h : Rd9 H C p z ts) (g : G ts d ts') (q : ∀ v H', Kp [p] H H' → Rd9 H' C p z ts' → Rp [p] H' v d → Q v H') : sp_rd C G [.ref p] H Q E := ⟨p, z, ts, ts', d, rfl, h, g, q⟩
abbrev sp_read_number (C : Addr) : Sp := sp_rd C Gnum
abbrev sp_read_pair (C : Addr) : Sp := sp_rd C Gpr
abbrev sp_read_list (C : Addr) : Sp := sp_rd C Glist
abbrev sp_read_box (C : Addr) : Sp := sp_rd C Gbox
abbrev sp_read_condition (C : Addr) : Sp := sp_rd C Gcond
theorem ok_read_number {f : Addr} {fd : FuncData} (F : Fun K "read_number" "read_number" s_read_number f fd) (T : Txt K mg w D_READERS D_WORDS V_read_box V_read_condition V_read_conditional V_read_drop V_read_during V_read_first V_read_list V_read_nearest V_read_nothing V_read_number V_read_pair V_read_put V_read_skyline V_read_turn C_Reader tk_ALL tk_MOST_DIGITS) (O_Reader__take_number : OkM CX0 P w K mg base 4 C_Reader "take_number" ["self"] (sp_Reader__take_number C_Reader)) : FnOk P w K mg base CX0 5 f fd ["reader"] (sp_read_number C_Reader) := by
  refine F.ok sc_read_number (fun vs H Q E h => ?_) (fun cdv A outer s H vs Q E hr h => ?_)
  · obtain ⟨p, z, ts, ts', d, rfl, _⟩ := h
    rfl
  · obtain ⟨p, z, ts, ts', d, rfl, hR, ⟨i, hi, rfl, rfl⟩, k⟩ := h
    refine ⟨_, d_read_number hr T O_Reader__take_number, ?_⟩
    unfold t_read_number
    refine x_start (σ' := [some (.ref p)]) rfl ?_
    obtain ⟨a, dx, hp⟩ := hR.ins
    walk_at "sts"
    refine x_m rfl hp rfl ?_
    walk_at "sts"
    exact x_takeN hR hi fun H1 k1 r1 => k _ H1 k1 r1 (.int i)
theorem ok_read_pair {f : Addr} {fd : FuncData} (F : Fun K "read_pair" "read_pair" s_read_pair f fd) (T : Txt K mg w D_READERS D_WORDS V_read_box V_read_condition V_read_conditional V_read_drop V_read_during V_read_first V_read_list V_read_nearest V_read_nothing V_read_number V_read_pair V_read_put V_read_skyline V_read_turn C_Reader tk_ALL tk_MOST_DIGITS) (O_Reader__due : OkM CX0 P w K mg base 3 C_Reader "due" ["self"] (sp_Reader__due C_Reader)) (O_Reader__take : OkM CX0 P w K mg base 4 C_Reader "take" ["self", "tokens"] (sp_Reader__take K C_Reader)) (O_Reader__take_number : OkM CX0 P w K mg base 4 C_Reader "take_number" ["self"] (sp_Reader__take_number C_Reader)) : FnOk P w K mg base CX0 5 f fd ["reader"] (sp_read_pair C_Reader) := by
  refine F.ok sc_read_pair (fun vs H Q E h => ?_) (fun cdv A outer s H vs Q E hr h => ?_)
  · obtain ⟨p, z, ts, ts', d, rfl, _⟩ := h
    rfl
  · obtain ⟨p, z, ts, ts', d, rfl, hR, ⟨q, ⟨h1, h2⟩, rfl, rfl, hn⟩, k⟩ := h
    refine ⟨_, d_read_pair hr T O_Reader__due O_Reader__take O_Reader__take_number, ?_⟩
    unfold t_read_pair
    refine x_start (σ' := [some (.ref p), none]) rfl ?_
    obtain ⟨a, dx, hp⟩ := hR.ins
    walk_at "sts"
    refine x_m rfl hp rfl ?_
    walk_at "sts"
    unfold prK at hR
    by_cases c : q.1 = q.2
    · rw [if_pos c] at hR
      refine x_takeN (ts := ts') hR h1 fun H1 k1 r1 => ?_
      obtain ⟨a, dx, hp⟩ := r1.ins
      walk_at "sts"
      refine x_m rfl hp rfl ?_
      walk_at "sts"
      refine x_due r1 ?_
      walk_at "sts"
      refine x_neS ?_
      rw [decide_eq_false hn]
      walk_at "sts"
      refine x_mkT (ex := [p]) (ds := [.int q.1, .int q.1]) (Rps.cons (.int _) (Rps.cons (.int _) Rps.nil)) r1.live (Nat.le_of_ble_eq_true rfl) fun v H2 s2 rv => ?_
      have e : pr2D q = .tup [.int q.1, .int q.1] := by unfold pr2D; rw [← c]
      rw [e] at k
      exact k v H2 (k1.same s2) (r1.same s2) rv
    · rw [if_neg c] at hR
      refine x_takeN (ts := ("..":Str) :: tI q.2 :: ts') hR h1 fun H1 k1 r1 => ?_
      obtain ⟨a, dx, hp⟩ := r1.ins
      walk_at "sts"
      refine x_m rfl hp rfl ?_
      walk_at "sts"
      refine x_due r1 ?_
      walk_at "sts"
      refine x_neS ?_
      rw [show (!decide ((("..":Str) :: tI q.2 :: ts').headD "" = "..")) = false from by rw [decide_eq_true (show (("..":Str) :: tI q.2 :: ts').headD "" = ".." from rfl)]; rfl]
      walk_at "sts"
      refine x_m rfl hp rfl ?_
      walk_at "sts"
      refine x_mkTN (Nat.le_of_ble_eq_true rfl) fun t H2 s2 z2 e2 => ?_
      walk_at "sts"
      refine x_takeR (ws := [("..":Str)]) (r1.same s2) (.inl (SqT.of e2)) (by simp) fun H3 k3 r3 => ?_
      obtain ⟨a, dx, hp⟩ := r3.ins
      walk_at "sts"
      refine x_m rfl hp rfl ?_
      walk_at "sts"
      refine x_takeN r3 h2 fun H4 k4 r4 => ?_
      walk_at "sts"
      refine x_mkT (ex := [p]) (ds := [.int q.1, .int q.2]) (Rps.cons (.int _) (Rps.cons (.int _) Rps.nil)) r4.live (Nat.le_of_ble_eq_true rfl) fun v H5 s5 rv => ?_
      exact k v H5 ((((k1.same s2).trans k3).trans k4).same s5) (r4.same s5) rv
def sp_read_series (C V1 V2 : Addr) : Sp := fun vs H Q _ => ∃ (p Vv : Addr) (z : Str) (ts ts' : List Str) (d : Da), vs = [.ref p, .ref Vv] ∧ Rd9 H C p z ts ∧ ((Vv = V1 ∧ Glist ts d ts') ∨ (Vv = V2 ∧ Gbox ts d ts')) ∧ ∀ v H', Kp [p] H H' → Rd9 H' C p z ts' → Rp [p] H' v d → Q v H'
theorem ok_read_series {f : Addr} {fd : FuncData} (F : Fun K "read_series" "read_series" s_read_series f fd) (T : Txt K mg w D_READERS D_WORDS V_read_box V_read_condition V_read_conditional V_read_drop V_read_during V_read_first V_read_list V_read_nearest V_read_nothing V_read_number V_read_pair V_read_put V_read_skyline V_read_turn C_Reader tk_ALL tk_MOST_DIGITS) (O_Reader__take : OkM CX0 P w K mg base 4 C_Reader "take" ["self", "tokens"] (sp_Reader__take K C_Reader)) (O_read_number : Ok P w K mg base 5 "read_number" ["reader"] (sp_read_number C_Reader)) (O_read_pair : Ok P w K mg base 5 "read_pair" ["reader"] (sp_read_pair C_Reader)) : FnOk P w K mg base CX0 6 f fd ["reader", "read_one"] (sp_read_series C_Reader V_read_number V_read_pair) := by
  refine F.ok sc_read_series (fun vs H Q E h => ?_) (fun cdv A outer s H vs Q E hr h => ?_)
  · obtain ⟨p, Vv, z, ts, ts', d, rfl, _⟩ := h
    rfl
  · obtain ⟨p, Vv, z, ts, ts', d, rfl, hR, hV, k⟩ := h
    refine ⟨_, d_read_series hr T O_Reader__take O_read_number O_read_pair, ?_⟩
    unfold t_read_series
    refine x_start (σ' := [some (.ref p), some (.ref Vv), none]) rfl ?_
    obtain ⟨α, kf, D, P', xs, hcall, h0, hl, hP, hdn, rfl, rfl⟩ : ∃ (α : Type) (kf : α → List Str) (D : α → Da) (P' : α → Prop) (xs : List α),
        (∀ (σ : L2.St) (H1 : Hp) (x : α) (r : List Str) (Q1 : VK), σ[0]? = some (some (.ref p)) → σ[1]? = some (some (.ref Vv)) → P' x → r.headD "" ≠ ".." → Rd9 H1 C_Reader p z (kf x ++ r) → (∀ v H', Kp [p] H1 H' → Rd9 H' C_Reader p z r → Rp [p] H' v (D x) → Q1 v H') →
          tEi (tCallL 1 V_read_number (sp_read_number C_Reader) [] E0 (tCons (tVar 0) tNil)) (tCallL 1 V_read_pair (sp_read_pair C_Reader) [] E0 (tCons (tVar 0) tNil)) σ H1 Q1) ∧
        0 < xs.length ∧ xs.length ≤ 100 ∧ (∀ x, x ∈ xs → P' x) ∧ (∀ x, P' x → Dn 3 (D x)) ∧ ts = serK kf xs ++ ts' ∧ d = .tup (xs.map D) := by
      rcases hV with ⟨rfl, ns, on, ln, rfl, rfl⟩ | ⟨rfl, b, ob, lb, rfl, rfl⟩
      · refine ⟨Int, fun i => [tI i], Da.int, Sm, ns, ?_, ln, on.1, on.2, fun x _ => .int x, rfl, rfl⟩
        intro σ H1 x r Q1 e0 e1 px _ hR1 q1
        refine x_eiL (x_callL e1 ?_)
        refine x_cons ?_
        refine x_var e0 ?_
        refine x_nil ?_
        exact x_rd hR1 ⟨x, px, rfl, rfl⟩ q1
      · refine ⟨Int × Int, prK, pr2D, fun q => Sm q.1 ∧ Sm q.2, b, ?_, lb, ob.1, ob.2, fun x _ => ?_, rfl, rfl⟩
        · intro σ H1 x r Q1 e0 e1 px hn hR1 q1
          refine x_eiR (x_callL e1 ?_)
          refine x_cons ?_
          refine x_var e0 ?_
          refine x_nil ?_
          exact x_rd hR1 ⟨x, px, rfl, rfl, hn⟩ q1
        · refine .tup (Nat.le_of_ble_eq_true rfl) fun d hd => ?_
          simp only [List.mem_cons, List.not_mem_nil, or_false] at hd
          rcases hd with rfl | rfl
          · exact .int _
          · exact .int _
    match xs, h0, hl, hP, hR, k with
    | x0 :: xs, _, hl, hP, hR, k =>
      have hR : Rd9 H C_Reader p z (("[":Str) :: (kf x0 ++ (tlK kf xs ++ ts'))) := by
        have e : serK kf (x0 :: xs) ++ ts' = ("[":Str) :: (kf x0 ++ (tlK kf xs ++ ts')) := by
          show (("[":Str) :: (kf x0 ++ tlK kf xs)) ++ ts' = _
          rw [List.cons_append, List.append_assoc]
        rw [e] at hR
        exact hR
      have hd : ∀ l : List α, (tlK kf l ++ ts').headD "" ≠ ".." := by
        intro l
        cases l with
        | nil => show ("]" : Str) ≠ ".."; decide +kernel
        | cons x l => show ("," : Str) ≠ ".."; decide +kernel
      obtain ⟨a, dx, hp⟩ := hR.ins
      walk_at "sts"
      refine x_m rfl hp rfl ?_
      walk_at "sts"
      refine x_mkTN (Nat.le_of_ble_eq_true rfl) fun t H2 s2 z2 e2 => ?_
      walk_at "sts"
      refine x_takeR (ws := [("[":Str)]) (hR.same s2) (.inl (SqT.of e2)) (by simp) fun H3 k3 r3 => ?_
      walk_at "sts"
      refine hcall _ H3 x0 _ _ rfl rfl (hP x0 (by simp)) (hd xs) r3 fun v0 H4 k4 r4 rv => ?_
      walk_at "sts"
      refine x_mklN (m := 1) rfl (by decide) fun l H5 s5 z5 e5 => ?_
      have hpl : p ≠ l := fun q => by
        obtain ⟨a, dx, hp⟩ := r4.ins
        rw [q, z5] at hp; cases hp
      have k5 : Kp [p] H H5 := (((Same.kp s2).trans k3).trans k4).same s5
      have zl : H l = none := Kp.none (((Same.kp s2).trans k3).trans k4) (not1' (Ne.symm hpl)) z5
      refine x_gName ?_
      refine x_seq ?_
      refine x_while (fun m σ H' => ∃ (ys rest : List α) (vs : List V), σ = [some (.ref p), some (.ref Vv), some (.ref l)] ∧ x0 :: xs = ys ++ rest ∧ Kp [p] H H' ∧ Rd9 H' C_Reader p z (tlK kf rest ++ ts') ∧ H' l = some (.lst vs) ∧ Rps [l, p] H' vs (ys.map D) ∧ m = rest.length) xs.length
        ⟨[x0], xs, [v0], rfl, rfl, k5, r4.same s5, e5, Rps.cons ((rv.same s5).avoid e5 (hdn x0 (hP x0 (by simp)))) Rps.nil, rfl⟩ ?_
      rintro m σ H' ⟨ys, rest, vs, rfl, exs, kp, rR, el, rps, rfl⟩
      obtain ⟨a, dx, hp⟩ := rR.ins
      walk_at "sts"
      refine x_m rfl hp rfl ?_
      walk_at "sts"
      refine x_mkTN (Nat.le_of_ble_eq_true rfl) fun t2 H6 s6 z6 e6 => ?_
      walk_at "sts"
      match rest, exs, rR with
      | [], exs, rR =>
        refine x_takeR (t := "]") (ts := ts') (ws := [(",":Str), "]"]) (rR.same s6) (.inl (SqT.of e6)) (by simp) fun H7 k7 r7 => ?_
        walk_at "sts"
        refine x_eqZ ?_
        walk_at "sts"
        refine x_dec (fun q => absurd q (by decide +kernel)) (fun _ => ?_)
        walk_at "sts"
        have el7 := k7 _ _ (not1' (Ne.symm hpl)) (s6 _ _ el)
        have rps7 : Rps [l, p] H7 vs (ys.map D) := rps_kp (rps_same rps s6) k7.more
        refine x_tupL (SqL.of el7) fun u hu => ?_
        have s8 := Same.new (o := .tup vs) (Same.refl H7) hu
        have hup : u ∉ [p] := fun q => by
          obtain ⟨a, dx, hp⟩ := r7.ins
          rw [List.mem_singleton.mp q, hp] at hu; cases hu
        rw [List.append_nil] at exs
        rw [exs] at k
        exact k _ _ (((kp.same s6).trans k7).same s8) (r7.same s8) (rps_tup (rps_same (rps_tail rps7) s8) hup upd_same)
      | x :: rest, exs, rR =>
        have px : P' x := hP x (by rw [exs]; simp)
        have e1 : tlK kf (x :: rest) ++ ts' = (",":Str) :: (kf x ++ (tlK kf rest ++ ts')) := by
          show ((",":Str) :: (kf x ++ tlK kf rest)) ++ ts' = _
          rw [List.cons_append, List.append_assoc]
        rw [e1] at rR
        refine x_takeR (t := ",") (ws := [(",":Str), "]"]) (rR.same s6) (.inl (SqT.of e6)) (by simp) fun H7 k7 r7 => ?_
        walk_at "sts"
        refine x_eqZ ?_
        walk_at "sts"
        refine x_dec (fun _ => ?_) (fun q => absurd rfl q)
        refine ⟨_, fun _ _ z => z, ?_⟩
        have el7 := k7 _ _ (not1' (Ne.symm hpl)) (s6 _ _ el)
        have rps7 : Rps [l, p] H7 vs (ys.map D) := rps_kp (rps_same rps s6) k7.more
        walk_at "sts"
        refine x_bmL el7 ?_
        walk_at "sts"
        refine hcall _ H7 x _ _ rfl rfl px (hd rest) r7 fun v H8 k8 r8 rv8 => ?_
        walk_at "sts"
        have el8 := k8 _ _ (not1' (Ne.symm hpl)) el7
        have hvl : vs.length < 100000 := by
          have h1 := rps.1
          rw [List.length_map] at h1
          have h2 : (x0 :: xs).length = (ys ++ x :: rest).length := by rw [exs]
          rw [List.length_append] at h2
          omega
        refine x_app el8 (szl hvl) ?_
        walk_at "sts"
        have rps8 : Rps [l, p] H8 vs (ys.map D) := rps_kp rps7 k8.more
        have kk : Kp [l, p] H8 (upd H8 l (.lst (vs ++ [v]))) := Kp.refl.mut List.mem_cons_self
        refine ⟨rest.length, by simp, ys ++ [x], rest, vs ++ [v], rfl, by rw [exs]; simp, (((kp.same s6).trans k7).trans k8).own zl, r8.mut hpl, upd_same, ?_, rfl⟩
        rw [List.map_append]
        exact rps_snoc (rps_kp rps8 kk) ((rv8.avoid el8 (hdn x px)).kp kk)


def cdK (c : Str × Bx97) : List Str := c.1 :: serK prK c.2
def csT : List (Str × Bx97) → List Str
  | [] => []
  | c :: cs => ("and" : Str) :: (cdK c ++ csT cs)
def csK : List (Str × Bx97) → List Str
  | [] => ["all"]
  | c :: cs => cdK c ++ csT cs
def serI (ns : List Int) : List Str := serK (fun i => [tI i]) ns
def spK : Option (List Int) → List Str
  | none => []
  | some ns => ("speed" : Str) :: serI ns
def Stm.tk : Stm → List Str
  | .put k b s => tI k :: (serK prK b ++ spK s)
  | .drop k => [tI k]
  | .turn k t s => tI k :: ("at" : Str) :: tI t :: ("speed" : Str) :: serI s
  | .cond _ cs t => csK cs ++ [("at" : Str), tI t]
  | .near m b t => tI m :: ("to" : Str) :: (serK prK b ++ [("at" : Str), tI t])
  | .sky t => [("at" : Str), tI t]
  | .dur b s e => serK prK b ++ [("from" : Str), tI s, ("to" : Str), tI e]
  | .fst b s x y => serK prK b ++ (spK (rsT b s) ++ [("from" : Str), tI x, ("to" : Str), tI y])
  | .one _ => []
theorem x_series {C V1 V2 p Vv : Addr} {z : Str} {ts ts' : List Str} {d : Da} {H : Hp} {Q : VK} {E : XK} (h : Rd9 H C p z ts) (g : (Vv = V1 ∧ Glist ts d ts') ∨ (Vv = V2 ∧ Gbox ts d ts')) (q : ∀ v H', Kp [p] H H' → Rd9 H' C p z ts' → Rp [p] H' v d → Q v H') : sp_read_series C V1 V2 [.ref p, .ref Vv] H Q E := ⟨p, Vv, z, ts, ts', d, rfl, h, g, q⟩
theorem ok_read_list {f : Addr} {fd : FuncData} (F : Fun K "read_list" "read_list" s_read_list f fd) (T : Txt K mg w D_READERS D_WORDS V_read_box V_read_condition V_read_conditional V_read_drop V_read_during V_read_first V_read_list V_read_nearest V_read_nothing V_read_number V_read_pair V_read_put V_read_skyline V_read_turn C_Reader tk_ALL tk_MOST_DIGITS) (O_read_series : Ok P w K mg base 6 "read_series" ["reader", "read_one"] (sp_read_series C_Reader V_read_number V_read_pair)) : FnOk P w K mg base CX0 7 f fd ["reader"] (sp_read_list C_Reader) := by
  refine F.ok sc_read_list (fun vs H Q E h => ?_) (fun cdv A outer s H vs Q E hr h => ?_)
  · obtain ⟨p, z, ts, ts', d, rfl, _⟩ := h
    rfl
  · obtain ⟨p, z, ts, ts', d, rfl, hR, g, k⟩ := h
    refine ⟨_, d_read_list hr T O_read_series, ?_⟩
    unfold t_read_list
    refine x_start (σ' := [some (.ref p)]) rfl ?_
    walk_at "sts"
    exact x_series hR (.inl ⟨rfl, g⟩) k
theorem ok_read_box {f : Addr} {fd : FuncData} (F : Fun K "read_box" "read_box" s_read_box f fd) (T : Txt K mg w D_READERS D_WORDS V_read_box V_read_condition V_read_conditional V_read_drop V_read_during V_read_first V_read_list V_read_nearest V_read_nothing V_read_number V_read_pair V_read_put V_read_skyline V_read_turn C_Reader tk_ALL tk_MOST_DIGITS) (O_read_series : Ok P w K mg base 6 "read_series" ["reader", "read_one"] (sp_read_series C_Reader V_read_number V_read_pair)) : FnOk P w K mg base CX0 7 f fd ["reader"] (sp_read_box C_Reader) := by
  refine F.ok sc_read_box (fun vs H Q E h => ?_) (fun cdv A outer s H vs Q E hr h => ?_)
  · obtain ⟨p, z, ts, ts', d, rfl, _⟩ := h
    rfl
  · obtain ⟨p, z, ts, ts', d, rfl, hR, g, k⟩ := h
    refine ⟨_, d_read_box hr T O_read_series, ?_⟩
    unfold t_read_box
    refine x_start (σ' := [some (.ref p)]) rfl ?_
    walk_at "sts"
    exact x_series hR (.inr ⟨rfl, g⟩) k
theorem ok_read_condition {f : Addr} {fd : FuncData} (F : Fun K "read_condition" "read_condition" s_read_condition f fd) (T : Txt K mg w D_READERS D_WORDS V_read_box V_read_condition V_read_conditional V_read_drop V_read_during V_read_first V_read_list V_read_nearest V_read_nothing V_read_number V_read_pair V_read_put V_read_skyline V_read_turn C_Reader tk_ALL tk_MOST_DIGITS) (O_Reader__take : OkM CX0 P w K mg base 4 C_Reader "take" ["self", "tokens"] (sp_Reader__take K C_Reader)) (O_read_box : Ok P w K mg base 7 "read_box" ["reader"] (sp_read_box C_Reader)) : FnOk P w K mg base CX0 8 f fd ["reader"] (sp_read_condition C_Reader) := by
  refine F.ok sc_read_condition (fun vs H Q E h => ?_) (fun cdv A outer s H vs Q E hr h => ?_)
  · obtain ⟨p, z, ts, ts', d, rfl, _⟩ := h
    rfl
  · obtain ⟨p, z, ts, ts', d, rfl, hR, ⟨c, h1, h2, h3, rfl, rfl⟩, k⟩ := h
    refine ⟨_, d_read_condition hr T O_Reader__take O_read_box, ?_⟩
    unfold t_read_condition
    refine x_start (σ' := [some (.ref p), none]) rfl ?_
    obtain ⟨a, dx, hp⟩ := hR.ins
    walk_at "sts"
    refine x_m rfl hp rfl ?_
    walk_at "sts"
    refine x_takeR (ws := wds) hR (.inl (T.kt_WORDS _)) h1 fun H1 k1 r1 => ?_
    walk_at "sts"
    refine x_rd (d := bx2D c.2) r1 ⟨c.2, h2, h3, rfl, rfl⟩ fun v H2 k2 r2 rv => ?_
    walk_at "sts"
    refine x_mkT (ex := [p]) (ds := [.str c.1, bx2D c.2]) (Rps.cons (.str _) (Rps.cons rv Rps.nil)) r2.live (Nat.le_of_ble_eq_true rfl) fun u H3 s3 ru => ?_
    exact k u H3 ((k1.trans k2).same s3) (r2.same s3) ru
def Gaft (V1 V2 V3 V4 Vv : Addr) (ts : List Str) (d : Da) (ts' : List Str) : Prop := (Vv = V1 ∧ Gnum ts d ts') ∨ (Vv = V2 ∧ Glist ts d ts') ∨ (Vv = V3 ∧ Gcond ts d ts') ∨ (Vv = V4 ∧ Gbox ts d ts')
def sp_read_after (C V1 V2 V3 V4 : Addr) : Sp := fun vs H Q _ => ∃ (p Vv : Addr) (z wd : Str) (ts ts' : List Str) (d : Da), vs = [.ref p, .str wd, .ref Vv] ∧ Rd9 H C p z (wd :: ts) ∧ Gaft V1 V2 V3 V4 Vv ts d ts' ∧ ∀ v H', Kp [p] H H' → Rd9 H' C p z ts' → Rp [p] H' v d → Q v H'
theorem x_after {C V1 V2 V3 V4 p Vv : Addr} {z wd : Str} {ts ts' : List Str} {d : Da} {H : Hp} {Q : VK} {E : XK} (h : Rd9 H C p z (wd :: ts)) (g : Gaft V1 V2 V3 V4 Vv ts d ts') (q : ∀ v H', Kp [p] H H' → Rd9 H' C p z ts' → Rp [p] H' v d → Q v H') : sp_read_after C V1 V2 V3 V4 [.ref p, .str wd, .ref Vv] H Q E := ⟨p, Vv, z, wd, ts, ts', d, rfl, h, g, q⟩
theorem ok_read_after {f : Addr} {fd : FuncData} (F : Fun K "read_after" "read_after" s_read_after f fd) (T : Txt K mg w D_READERS D_WORDS V_read_box V_read_condition V_read_conditional V_read_drop V_read_during V_read_first V_read_list V_read_nearest V_read_nothing V_read_number V_read_pair V_read_put V_read_skyline V_read_turn C_Reader tk_ALL tk_MOST_DIGITS) (O_Reader__take : OkM CX0 P w K mg base 4 C_Reader "take" ["self", "tokens"] (sp_Reader__take K C_Reader)) (O_read_box : Ok P w K mg base 7 "read_box" ["reader"] (sp_read_box C_Reader)) (O_read_condition : Ok P w K mg base 8 "read_condition" ["reader"] (sp_read_condition C_Reader)) (O_read_list : Ok P w K mg base 7 "read_list" ["reader"] (sp_read_list C_Reader)) (O_read_number : Ok P w K mg base 5 "read_number" ["reader"] (sp_read_number C_Reader)) : FnOk P w K mg base CX0 9 f fd ["reader", "word", "read_one"] (sp_read_after C_Reader V_read_number V_read_list V_read_condition V_read_box) := by
  refine F.ok sc_read_after (fun vs H Q E h => ?_) (fun cdv A outer s H vs Q E hr h => ?_)
  · obtain ⟨p, Vv, z, wd, ts, ts', d, rfl, _⟩ := h
    rfl
  · obtain ⟨p, Vv, z, wd, ts, ts', d, rfl, hR, g, k⟩ := h
    refine ⟨_, d_read_after hr T O_Reader__take O_read_box O_read_condition O_read_list O_read_number, ?_⟩
    unfold t_read_after
    refine x_start (σ' := [some (.ref p), some (.str wd), some (.ref Vv)]) rfl ?_
    obtain ⟨a, dx, hp⟩ := hR.ins
    walk_at "sts"
    refine x_m rfl hp rfl ?_
    walk_at "sts"
    refine x_mkTN (Nat.le_of_ble_eq_true rfl) fun t H2 s2 z2 e2 => ?_
    walk_at "sts"
    refine x_takeR (ws := [wd]) (hR.same s2) (.inl (SqT.of e2)) (by simp) fun H3 k3 r3 => ?_
    have k' : ∀ v H', Kp [p] H3 H' → Rd9 H' C_Reader p z ts' → Rp [p] H' v d → Q v H' := fun v H' a b c => k v H' ((Kp.trans (Same.kp s2) k3).trans a) b c
    walk_at "sts"
    rcases g with ⟨rfl, g⟩ | ⟨rfl, g⟩ | ⟨rfl, g⟩ | ⟨rfl, g⟩
    · refine x_eiL (x_callL rfl ?_)
      walk_at "sts"
      exact x_rd r3 g k'
    · refine x_eiR (x_eiL (x_callL rfl ?_))
      walk_at "sts"
      exact x_rd r3 g k'
    · refine x_eiR (x_eiR (x_eiL (x_callL rfl ?_)))
      walk_at "sts"
      exact x_rd r3 g k'
    · refine x_eiR (x_eiR (x_eiR (x_callL rfl ?_)))
      walk_at "sts"
      exact x_rd r3 g k'
theorem cd_dn {c : Str × Bx97} (h : Bok c.2) : Dn 4 (cd2D c) := by
  refine .tup (Nat.le_of_ble_eq_true rfl) fun d hd => ?_
  simp only [List.mem_cons, List.not_mem_nil, or_false] at hd
  rcases hd with rfl | rfl
  · exact .str _
  · exact bx_dn h
def Gcs (ts : List Str) (d : Da) (ts' : List Str) : Prop := ∃ cs, CsOk cs ∧ ts = csK cs ++ ts' ∧ d = .tup (cs.map cd2D) ∧ ts'.headD "" ≠ "and"
abbrev sp_read_conditions (C : Addr) : Sp := sp_rd C Gcs
theorem ok_read_conditions {f : Addr} {fd : FuncData} (F : Fun K "read_conditions" "read_conditions" s_read_conditions f fd) (T : Txt K mg w D_READERS D_WORDS V_read_box V_read_condition V_read_conditional V_read_drop V_read_during V_read_first V_read_list V_read_nearest V_read_nothing V_read_number V_read_pair V_read_put V_read_skyline V_read_turn C_Reader tk_ALL tk_MOST_DIGITS) (O_Reader__due : OkM CX0 P w K mg base 3 C_Reader "due" ["self"] (sp_Reader__due C_Reader)) (O_Reader__take : OkM CX0 P w K mg base 4 C_Reader "take" ["self", "tokens"] (sp_Reader__take K C_Reader)) (O_read_after : Ok P w K mg base 9 "read_after" ["reader", "word", "read_one"] (sp_read_after C_Reader V_read_number V_read_list V_read_condition V_read_box)) (O_read_condition : Ok P w K mg base 8 "read_condition" ["reader"] (sp_read_condition C_Reader)) : FnOk P w K mg base CX0 10 f fd ["reader"] (sp_read_conditions C_Reader) := by
  refine F.ok sc_read_conditions (fun vs H Q E h => ?_) (fun cdv A outer s H vs Q E hr h => ?_)
  · obtain ⟨p, z, ts, ts', d, rfl, _⟩ := h
    rfl
  · obtain ⟨p, z, ts, ts', d, rfl, hR, ⟨cs, oc, rfl, rfl, hn⟩, k⟩ := h
    refine ⟨_, d_read_conditions hr T O_Reader__due O_Reader__take O_read_after O_read_condition, ?_⟩
    unfold t_read_conditions
    refine x_start (σ' := [some (.ref p), none]) rfl ?_
    obtain ⟨a, dx, hp⟩ := hR.ins
    walk_at "sts"
    refine x_m rfl hp rfl ?_
    walk_at "sts"
    match cs, oc, hR, k with
    | [], oc, hR, k =>
      refine x_due hR ?_
      walk_at "sts"
      refine x_eqZ ?_
      walk_at "sts"
      refine x_dec (fun _ => ?_) (fun q => absurd rfl q)
      walk_at "sts"
      refine x_m rfl hp rfl ?_
      walk_at "sts"
      refine x_mkTN (Nat.le_of_ble_eq_true rfl) fun t H2 s2 z2 e2 => ?_
      walk_at "sts"
      refine x_takeR (t := "all") (ts := ts') (ws := [("all" : Str)]) (hR.same s2) (.inl (SqT.of e2)) (by simp) fun H3 k3 r3 => ?_
      walk_at "sts"
      refine x_mkT (ex := [p]) (ds := []) Rps.nil r3.live (Nat.le_of_ble_eq_true rfl) fun v H4 s4 rv => ?_
      exact k v H4 ((Kp.trans (Same.kp s2) k3).same s4) (r3.same s4) rv
    | c0 :: cs, oc, hR, k =>
      have o0 := oc.2 c0 (by simp)
      have hR : Rd9 H C_Reader p z (c0.1 :: (serK prK c0.2 ++ (csT cs ++ ts'))) := by
        have e : csK (c0 :: cs) ++ ts' = c0.1 :: (serK prK c0.2 ++ (csT cs ++ ts')) := by
          show (c0.1 :: serK prK c0.2 ++ csT cs) ++ ts' = _
          rw [List.cons_append, List.cons_append, List.append_assoc]
        rw [e] at hR
        exact hR
      refine x_due hR ?_
      walk_at "sts"
      refine x_eqZ ?_
      walk_at "sts"
      refine x_dec (fun q => ?_) (fun _ => ?_)
      · exfalso
        have hw := o0.1
        have q : c0.1 = "all" := q
        rw [q] at hw
        revert hw
        decide +kernel
      walk_at "sts"
      refine x_rd (d := cd2D c0) hR ⟨c0, o0.1, o0.2.1, o0.2.2, rfl, rfl⟩ fun v0 H4 k4 r4 rv => ?_
      walk_at "sts"
      refine x_mklN (m := 1) rfl (by decide) fun l H5 s5 z5 e5 => ?_
      have hpl : p ≠ l := fun q => by
        obtain ⟨a, dx, hp⟩ := r4.ins
        rw [q, z5] at hp; cases hp
      have zl : H l = none := Kp.none k4 (not1' (Ne.symm hpl)) z5
      refine x_gName ?_
      refine x_seq ?_
      refine x_while (fun m σ H' => ∃ (ys rest : List (Str × Bx97)) (vs : List V), σ = [some (.ref p), some (.ref l)] ∧ c0 :: cs = ys ++ rest ∧ Kp [p] H H' ∧ Rd9 H' C_Reader p z (csT rest ++ ts') ∧ H' l = some (.lst vs) ∧ Rps [l, p] H' vs (ys.map cd2D) ∧ m = rest.length) cs.length
        ⟨[c0], cs, [v0], rfl, rfl, k4.same s5, r4.same s5, e5, Rps.cons ((rv.same s5).avoid e5 (cd_dn o0.2.1)) Rps.nil, rfl⟩ ?_
      rintro m σ H' ⟨ys, rest, vs, rfl, exs, kp, rR, el, rps, rfl⟩
      obtain ⟨a, dx, hp⟩ := rR.ins
      walk_at "sts"
      refine x_m rfl hp rfl ?_
      walk_at "sts"
      match rest, exs, rR with
      | [], exs, rR =>
        refine x_due (ts := ts') rR ?_
        walk_at "sts"
        refine x_eqZ ?_
        walk_at "sts"
        refine x_dec (fun q => absurd q hn) (fun _ => ?_)
        walk_at "sts"
        refine x_tupL (SqL.of el) fun u hu => ?_
        have s8 := Same.new (o := .tup vs) (Same.refl H') hu
        have hup : u ∉ [p] := fun q => by
          rw [List.mem_singleton.mp q, hp] at hu; cases hu
        rw [List.append_nil] at exs
        rw [exs] at k
        exact k _ _ (kp.same s8) (Rd9.same (ts := ts') rR s8) (rps_tup (rps_same (rps_tail rps) s8) hup upd_same)
      | c :: rest, exs, rR =>
        have oe := oc.2 c (by rw [exs]; simp)
        have e1 : csT (c :: rest) ++ ts' = ("and" : Str) :: (c.1 :: (serK prK c.2 ++ (csT rest ++ ts'))) := by
          show (("and" : Str) :: (c.1 :: serK prK c.2 ++ csT rest)) ++ ts' = _
          rw [List.cons_append, List.cons_append, List.cons_append, List.append_assoc]
        rw [e1] at rR
        refine x_due rR ?_
        walk_at "sts"
        refine x_eqZ ?_
        walk_at "sts"
        refine x_dec (fun _ => ?_) (fun q => absurd rfl q)
        refine ⟨_, fun _ _ z => z, ?_⟩
        walk_at "sts"
        refine x_bmL el ?_
        walk_at "sts"
        refine x_after (d := cd2D c) rR (.inr (.inr (.inl ⟨rfl, c, oe.1, oe.2.1, oe.2.2, rfl, rfl⟩))) fun v H8 k8 r8 rv8 => ?_
        walk_at "sts"
        have el8 := k8 _ _ (not1' (Ne.symm hpl)) el
        have hvl : vs.length < 100000 := by
          have h1 := rps.1
          rw [List.length_map] at h1
          have h2 : (c0 :: cs).length = (ys ++ c :: rest).length := by rw [exs]
          rw [List.length_append] at h2
          have := oc.1
          omega
        refine x_app el8 (szl hvl) ?_
        walk_at "sts"
        have rps8 : Rps [l, p] H8 vs (ys.map cd2D) := rps_kp rps k8.more
        have kk : Kp [l, p] H8 (upd H8 l (.lst (vs ++ [v]))) := Kp.refl.mut List.mem_cons_self
        refine ⟨rest.length, by simp, ys ++ [c], rest, vs ++ [v], rfl, by rw [exs]; simp, (kp.trans k8).own zl, r8.mut hpl, upd_same, ?_, rfl⟩
        rw [List.map_append]
        exact rps_snoc (rps_kp rps8 kk) ((rv8.avoid el8 (cd_dn oe.2.1)).kp kk)


def Gst (P : Stm → Prop) (ts : List Str) (d : Da) (ts' : List Str) : Prop := ∃ s : Stm, P s ∧ s.Ok ∧ ts = s.tk ∧ d = .tup s.ps ∧ ts' = []
abbrev sp_read_put (C : Addr) : Sp := sp_rd C (Gst fun s => ∃ k b x, s = .put k b x)
abbrev sp_read_drop (C : Addr) : Sp := sp_rd C (Gst fun s => ∃ k, s = .drop k)
abbrev sp_read_turn (C : Addr) : Sp := sp_rd C (Gst fun s => ∃ k t x, s = .turn k t x)
abbrev sp_read_conditional (C : Addr) : Sp := sp_rd C (Gst fun s => ∃ w c t, s = .cond w c t)
abbrev sp_read_nearest (C : Addr) : Sp := sp_rd C (Gst fun s => ∃ m b t, s = .near m b t)
abbrev sp_read_skyline (C : Addr) : Sp := sp_rd C (Gst fun s => ∃ t, s = .sky t)
abbrev sp_read_during (C : Addr) : Sp := sp_rd C (Gst fun s => ∃ b x e, s = .dur b x e)
abbrev sp_read_first (C : Addr) : Sp := sp_rd C (Gst fun s => ∃ b r x y, s = .fst b r x y)
abbrev sp_read_nothing (C : Addr) : Sp := sp_rd C (Gst fun s => ∃ w, s = .one w)
theorem ok_read_nothing {f : Addr} {fd : FuncData} (F : Fun K "read_nothing" "read_nothing" s_read_nothing f fd) (T : Txt K mg w D_READERS D_WORDS V_read_box V_read_condition V_read_conditional V_read_drop V_read_during V_read_first V_read_list V_read_nearest V_read_nothing V_read_number V_read_pair V_read_put V_read_skyline V_read_turn C_Reader tk_ALL tk_MOST_DIGITS)  : FnOk P w K mg base CX0 1 f fd ["_"] (sp_read_nothing C_Reader) := by
  refine F.ok sc_read_nothing (fun vs H Q E h => ?_) (fun cdv A outer s H vs Q E hr h => ?_)
  · obtain ⟨p, z, ts, ts', d, rfl, _⟩ := h
    rfl
  · obtain ⟨p, z, ts, ts', d, rfl, hR, ⟨st, ⟨w', rfl⟩, o, rfl, rfl, rfl⟩, k⟩ := h
    refine ⟨_, d_read_nothing hr T , ?_⟩
    unfold t_read_nothing
    refine x_start (σ' := [some (.ref p)]) rfl ?_
    walk_at "sts"
    refine x_mkT (ex := [p]) (ds := []) Rps.nil hR.live (Nat.le_of_ble_eq_true rfl) fun v H4 s4 rv => ?_
    exact k v H4 (Same.kp s4) (hR.same s4) rv
theorem ok_read_drop {f : Addr} {fd : FuncData} (F : Fun K "read_drop" "read_drop" s_read_drop f fd) (T : Txt K mg w D_READERS D_WORDS V_read_box V_read_condition V_read_conditional V_read_drop V_read_during V_read_first V_read_list V_read_nearest V_read_nothing V_read_number V_read_pair V_read_put V_read_skyline V_read_turn C_Reader tk_ALL tk_MOST_DIGITS) (O_read_number : Ok P w K mg base 5 "read_number" ["reader"] (sp_read_number C_Reader)) : FnOk P w K mg base CX0 6 f fd ["reader"] (sp_read_drop C_Reader) := by
  refine F.ok sc_read_drop (fun vs H Q E h => ?_) (fun cdv A outer s H vs Q E hr h => ?_)
  · obtain ⟨p, z, ts, ts', d, rfl, _⟩ := h
    rfl
  · obtain ⟨p, z, ts, ts', d, rfl, hR, ⟨st, ⟨i, rfl⟩, o, rfl, rfl, rfl⟩, k⟩ := h
    refine ⟨_, d_read_drop hr T O_read_number, ?_⟩
    unfold t_read_drop
    refine x_start (σ' := [some (.ref p)]) rfl ?_
    walk_at "sts"
    refine x_rd (d := .int i) hR ⟨i, o, rfl, rfl⟩ fun v H1 k1 r1 rv => ?_
    walk_at "sts"
    refine x_mkT (ex := [p]) (ds := [.int i]) (Rps.cons rv Rps.nil) r1.live (Nat.le_of_ble_eq_true rfl) fun u H4 s4 ru => ?_
    exact k u H4 (k1.same s4) (r1.same s4) ru
theorem ok_read_skyline {f : Addr} {fd : FuncData} (F : Fun K "read_skyline" "read_skyline" s_read_skyline f fd) (T : Txt K mg w D_READERS D_WORDS V_read_box V_read_condition V_read_conditional V_read_drop V_read_during V_read_first V_read_list V_read_nearest V_read_nothing V_read_number V_read_pair V_read_put V_read_skyline V_read_turn C_Reader tk_ALL tk_MOST_DIGITS) (O_read_after : Ok P w K mg base 9 "read_after" ["reader", "word", "read_one"] (sp_read_after C_Reader V_read_number V_read_list V_read_condition V_read_box)) : FnOk P w K mg base CX0 10 f fd ["reader"] (sp_read_skyline C_Reader) := by
  refine F.ok sc_read_skyline (fun vs H Q E h => ?_) (fun cdv A outer s H vs Q E hr h => ?_)
  · obtain ⟨p, z, ts, ts', d, rfl, _⟩ := h
    rfl
  · obtain ⟨p, z, ts, ts', d, rfl, hR, ⟨st, ⟨i, rfl⟩, o, rfl, rfl, rfl⟩, k⟩ := h
    refine ⟨_, d_read_skyline hr T O_read_after, ?_⟩
    unfold t_read_skyline
    refine x_start (σ' := [some (.ref p)]) rfl ?_
    walk_at "sts"
    refine x_after (d := .int i) hR (.inl ⟨rfl, i, o, rfl, rfl⟩) fun v H1 k1 r1 rv => ?_
    walk_at "sts"
    refine x_mkT (ex := [p]) (ds := [.int i]) (Rps.cons rv Rps.nil) r1.live (Nat.le_of_ble_eq_true rfl) fun u H4 s4 ru => ?_
    exact k u H4 (k1.same s4) (r1.same s4) ru
theorem ok_read_turn {f : Addr} {fd : FuncData} (F : Fun K "read_turn" "read_turn" s_read_turn f fd) (T : Txt K mg w D_READERS D_WORDS V_read_box V_read_condition V_read_conditional V_read_drop V_read_during V_read_first V_read_list V_read_nearest V_read_nothing V_read_number V_read_pair V_read_put V_read_skyline V_read_turn C_Reader tk_ALL tk_MOST_DIGITS) (O_read_after : Ok P w K mg base 9 "read_after" ["reader", "word", "read_one"] (sp_read_after C_Reader V_read_number V_read_list V_read_condition V_read_box)) (O_read_number : Ok P w K mg base 5 "read_number" ["reader"] (sp_read_number C_Reader)) : FnOk P w K mg base CX0 10 f fd ["reader"] (sp_read_turn C_Reader) := by
  refine F.ok sc_read_turn (fun vs H Q E h => ?_) (fun cdv A outer s H vs Q E hr h => ?_)
  · obtain ⟨p, z, ts, ts', d, rfl, _⟩ := h
    rfl
  · obtain ⟨p, z, ts, ts', d, rfl, hR, ⟨st, ⟨i, t, ns, rfl⟩, ⟨o1, o2, o3, o4⟩, rfl, rfl, rfl⟩, k⟩ := h
    refine ⟨_, d_read_turn hr T O_read_after O_read_number, ?_⟩
    unfold t_read_turn
    refine x_start (σ' := [some (.ref p), none, none]) rfl ?_
    walk_at "sts"
    refine x_rd (d := .int i) hR ⟨i, o1, rfl, rfl⟩ fun v1 H1 k1 r1 rv1 => ?_
    walk_at "sts"
    refine x_after (d := .int t) r1 (.inl ⟨rfl, t, o2, rfl, rfl⟩) fun v2 H2 k2 r2 rv2 => ?_
    walk_at "sts"
    refine x_after (ts' := []) (d := is2D ns) r2 (.inr (.inl ⟨rfl, ns, o3, o4, (List.append_nil _).symm, rfl⟩)) fun v3 H3 k3 r3 rv3 => ?_
    walk_at "sts"
    refine x_mkT (ex := [p]) (ds := [.int i, .int t, is2D ns]) (Rps.cons ((rv1.kp k2).kp k3) (Rps.cons (rv2.kp k3) (Rps.cons rv3 Rps.nil))) r3.live (Nat.le_of_ble_eq_true rfl) fun u H4 s4 ru => ?_
    exact k u H4 (((k1.trans k2).trans k3).same s4) (r3.same s4) ru
theorem ok_read_conditional {f : Addr} {fd : FuncData} (F : Fun K "read_conditional" "read_conditional" s_read_conditional f fd) (T : Txt K mg w D_READERS D_WORDS V_read_box V_read_condition V_read_conditional V_read_drop V_read_during V_read_first V_read_list V_read_nearest V_read_nothing V_read_number V_read_pair V_read_put V_read_skyline V_read_turn C_Reader tk_ALL tk_MOST_DIGITS) (O_read_after : Ok P w K mg base 9 "read_after" ["reader", "word", "read_one"] (sp_read_after C_Reader V_read_number V_read_list V_read_condition V_read_box)) (O_read_conditions : Ok P w K mg base 10 "read_conditions" ["reader"] (sp_read_conditions C_Reader)) : FnOk P w K mg base CX0 11 f fd ["reader"] (sp_read_conditional C_Reader) := by
  refine F.ok sc_read_conditional (fun vs H Q E h => ?_) (fun cdv A outer s H vs Q E hr h => ?_)
  · obtain ⟨p, z, ts, ts', d, rfl, _⟩ := h
    rfl
  · obtain ⟨p, z, ts, ts', d, rfl, hR, ⟨st, ⟨w', cs, t, rfl⟩, ⟨_, o2, o3⟩, rfl, rfl, rfl⟩, k⟩ := h
    refine ⟨_, d_read_conditional hr T O_read_after O_read_conditions, ?_⟩
    unfold t_read_conditional
    refine x_start (σ' := [some (.ref p), none]) rfl ?_
    walk_at "sts"
    refine x_rd (d := .tup (cs.map cd2D)) hR ⟨cs, o2, rfl, rfl, by show ("at" : Str) ≠ "and"; decide +kernel⟩ fun v1 H1 k1 r1 rv1 => ?_
    walk_at "sts"
    refine x_after (d := .int t) r1 (.inl ⟨rfl, t, o3, rfl, rfl⟩) fun v2 H2 k2 r2 rv2 => ?_
    walk_at "sts"
    refine x_mkT (ex := [p]) (ds := [.tup (cs.map cd2D), .int t]) (Rps.cons (rv1.kp k2) (Rps.cons rv2 Rps.nil)) r2.live (Nat.le_of_ble_eq_true rfl) fun u H4 s4 ru => ?_
    exact k u H4 ((k1.trans k2).same s4) (r2.same s4) ru
theorem ok_read_nearest {f : Addr} {fd : FuncData} (F : Fun K "read_nearest" "read_nearest" s_read_nearest f fd) (T : Txt K mg w D_READERS D_WORDS V_read_box V_read_condition V_read_conditional V_read_drop V_read_during V_read_first V_read_list V_read_nearest V_read_nothing V_read_number V_read_pair V_read_put V_read_skyline V_read_turn C_Reader tk_ALL tk_MOST_DIGITS) (O_read_after : Ok P w K mg base 9 "read_after" ["reader", "word", "read_one"] (sp_read_after C_Reader V_read_number V_read_list V_read_condition V_read_box)) (O_read_number : Ok P w K mg base 5 "read_number" ["reader"] (sp_read_number C_Reader)) : FnOk P w K mg base CX0 10 f fd ["reader"] (sp_read_nearest C_Reader) := by
  refine F.ok sc_read_nearest (fun vs H Q E h => ?_) (fun cdv A outer s H vs Q E hr h => ?_)
  · obtain ⟨p, z, ts, ts', d, rfl, _⟩ := h
    rfl
  · obtain ⟨p, z, ts, ts', d, rfl, hR, ⟨st, ⟨m, b, t, rfl⟩, ⟨o1, o2, o3⟩, rfl, rfl, rfl⟩, k⟩ := h
    refine ⟨_, d_read_nearest hr T O_read_after O_read_number, ?_⟩
    unfold t_read_nearest
    refine x_start (σ' := [some (.ref p), none, none]) rfl ?_
    walk_at "sts"
    refine x_rd (d := .int m) hR ⟨m, o1, rfl, rfl⟩ fun v1 H1 k1 r1 rv1 => ?_
    walk_at "sts"
    refine x_after (d := bx2D b) r1 (.inr (.inr (.inr ⟨rfl, b, o2.1, o2.2, rfl, rfl⟩))) fun v2 H2 k2 r2 rv2 => ?_
    walk_at "sts"
    refine x_after (d := .int t) r2 (.inl ⟨rfl, t, o3, rfl, rfl⟩) fun v3 H3 k3 r3 rv3 => ?_
    walk_at "sts"
    refine x_mkT (ex := [p]) (ds := [.int m, bx2D b, .int t]) (Rps.cons ((rv1.kp k2).kp k3) (Rps.cons (rv2.kp k3) (Rps.cons rv3 Rps.nil))) r3.live (Nat.le_of_ble_eq_true rfl) fun u H4 s4 ru => ?_
    exact k u H4 (((k1.trans k2).trans k3).same s4) (r3.same s4) ru
theorem ok_read_during {f : Addr} {fd : FuncData} (F : Fun K "read_during" "read_during" s_read_during f fd) (T : Txt K mg w D_READERS D_WORDS V_read_box V_read_condition V_read_conditional V_read_drop V_read_during V_read_first V_read_list V_read_nearest V_read_nothing V_read_number V_read_pair V_read_put V_read_skyline V_read_turn C_Reader tk_ALL tk_MOST_DIGITS) (O_read_after : Ok P w K mg base 9 "read_after" ["reader", "word", "read_one"] (sp_read_after C_Reader V_read_number V_read_list V_read_condition V_read_box)) (O_read_box : Ok P w K mg base 7 "read_box" ["reader"] (sp_read_box C_Reader)) : FnOk P w K mg base CX0 10 f fd ["reader"] (sp_read_during C_Reader) := by
  refine F.ok sc_read_during (fun vs H Q E h => ?_) (fun cdv A outer s H vs Q E hr h => ?_)
  · obtain ⟨p, z, ts, ts', d, rfl, _⟩ := h
    rfl
  · obtain ⟨p, z, ts, ts', d, rfl, hR, ⟨st, ⟨b, x, e, rfl⟩, ⟨o1, o2, o3⟩, rfl, rfl, rfl⟩, k⟩ := h
    refine ⟨_, d_read_during hr T O_read_after O_read_box, ?_⟩
    unfold t_read_during
    refine x_start (σ' := [some (.ref p), none, none]) rfl ?_
    walk_at "sts"
    refine x_rd (d := bx2D b) hR ⟨b, o1.1, o1.2, rfl, rfl⟩ fun v1 H1 k1 r1 rv1 => ?_
    walk_at "sts"
    refine x_after (d := .int x) r1 (.inl ⟨rfl, x, o2, rfl, rfl⟩) fun v2 H2 k2 r2 rv2 => ?_
    walk_at "sts"
    refine x_after (d := .int e) r2 (.inl ⟨rfl, e, o3, rfl, rfl⟩) fun v3 H3 k3 r3 rv3 => ?_
    walk_at "sts"
    refine x_mkT (ex := [p]) (ds := [bx2D b, .int x, .int e]) (Rps.cons ((rv1.kp k2).kp k3) (Rps.cons (rv2.kp k3) (Rps.cons rv3 Rps.nil))) r3.live (Nat.le_of_ble_eq_true rfl) fun u H4 s4 ru => ?_
    exact k u H4 (((k1.trans k2).trans k3).same s4) (r3.same s4) ru
theorem ok_read_put {f : Addr} {fd : FuncData} (F : Fun K "read_put" "read_put" s_read_put f fd) (T : Txt K mg w D_READERS D_WORDS V_read_box V_read_condition V_read_conditional V_read_drop V_read_during V_read_first V_read_list V_read_nearest V_read_nothing V_read_number V_read_pair V_read_put V_read_skyline V_read_turn C_Reader tk_ALL tk_MOST_DIGITS) (O_Reader__due : OkM CX0 P w K mg base 3 C_Reader "due" ["self"] (sp_Reader__due C_Reader)) (O_read_after : Ok P w K mg base 9 "read_after" ["reader", "word", "read_one"] (sp_read_after C_Reader V_read_number V_read_list V_read_condition V_read_box)) (O_read_box : Ok P w K mg base 7 "read_box" ["reader"] (sp_read_box C_Reader)) (O_read_number : Ok P w K mg base 5 "read_number" ["reader"] (sp_read_number C_Reader)) : FnOk P w K mg base CX0 10 f fd ["reader"] (sp_read_put C_Reader) := by
  refine F.ok sc_read_put (fun vs H Q E h => ?_) (fun cdv A outer s H vs Q E hr h => ?_)
  · obtain ⟨p, z, ts, ts', d, rfl, _⟩ := h
    rfl
  · obtain ⟨p, z, ts, ts', d, rfl, hR, ⟨st, ⟨i, b, sp, rfl⟩, ⟨o1, o2, o3⟩, rfl, rfl, rfl⟩, k⟩ := h
    refine ⟨_, d_read_put hr T O_Reader__due O_read_after O_read_box O_read_number, ?_⟩
    unfold t_read_put
    refine x_start (σ' := [some (.ref p), none, none, none]) rfl ?_
    walk_at "sts"
    refine x_rd (d := .int i) hR ⟨i, o1, rfl, rfl⟩ fun v1 H1 k1 r1 rv1 => ?_
    walk_at "sts"
    refine x_rd (d := bx2D b) r1 ⟨b, o2.1, o2.2, rfl, rfl⟩ fun v2 H2 k2 r2 rv2 => ?_
    walk_at "sts"
    refine x_cut (fun σ' H' => ∃ v3, σ' = [some (.ref p), some v1, some v2, some v3] ∧ Kp [p] H2 H' ∧ Rd9 H' C_Reader p z [] ∧ Rp [p] H' v3 (opD sp)) ?_ ?_
    · obtain ⟨a, dx, hp⟩ := r2.ins
      walk_at "sts"
      refine x_m rfl hp rfl ?_
      walk_at "sts"
      refine x_due r2 ?_
      walk_at "sts"
      refine x_eqZ ?_
      walk_at "sts"
      cases sp with
      | none =>
        refine x_dec (fun q => absurd q (by decide +kernel)) (fun _ => ?_)
        walk_at "sts"
        exact ⟨_, rfl, Kp.refl, r2, .non⟩
      | some ns =>
        refine x_dec (fun _ => ?_) (fun q => absurd rfl q)
        walk_at "sts"
        have on := o3 ns rfl
        refine x_after (ts' := []) (d := is2D ns) r2 (.inr (.inl ⟨rfl, ns, on.1, on.2, (List.append_nil _).symm, rfl⟩)) fun v3 H3 k3 r3 rv3 => ?_
        walk_at "sts"
        exact ⟨_, rfl, k3, r3, rv3⟩
    · rintro σ' H3 ⟨v3, rfl, k3, r3, rv3⟩
      walk_at "sts"
      refine x_mkT (ex := [p]) (ds := [.int i, bx2D b, opD sp]) (Rps.cons ((rv1.kp k2).kp k3) (Rps.cons (rv2.kp k3) (Rps.cons rv3 Rps.nil))) r3.live (Nat.le_of_ble_eq_true rfl) fun u H4 s4 ru => ?_
      exact k u H4 (((k1.trans k2).trans k3).same s4) (r3.same s4) ru
theorem ok_read_first {f : Addr} {fd : FuncData} (F : Fun K "read_first" "read_first" s_read_first f fd) (T : Txt K mg w D_READERS D_WORDS V_read_box V_read_condition V_read_conditional V_read_drop V_read_during V_read_first V_read_list V_read_nearest V_read_nothing V_read_number V_read_pair V_read_put V_read_skyline V_read_turn C_Reader tk_ALL tk_MOST_DIGITS) (O_Reader__due : OkM CX0 P w K mg base 3 C_Reader "due" ["self"] (sp_Reader__due C_Reader)) (O_read_after : Ok P w K mg base 9 "read_after" ["reader", "word", "read_one"] (sp_read_after C_Reader V_read_number V_read_list V_read_condition V_read_box)) (O_read_box : Ok P w K mg base 7 "read_box" ["reader"] (sp_read_box C_Reader)) : FnOk P w K mg base CX0 10 f fd ["reader"] (sp_read_first C_Reader) := by
  refine F.ok sc_read_first (fun vs H Q E h => ?_) (fun cdv A outer s H vs Q E hr h => ?_)
  · obtain ⟨p, z, ts, ts', d, rfl, _⟩ := h
    rfl
  · obtain ⟨p, z, ts, ts', d, rfl, hR, ⟨st, ⟨b, sp, x, y, rfl⟩, ⟨o1, o2, o3, o4⟩, rfl, rfl, rfl⟩, k⟩ := h
    refine ⟨_, d_read_first hr T O_Reader__due O_read_after O_read_box, ?_⟩
    unfold t_read_first
    refine x_start (σ' := [some (.ref p), none, none, none, none]) rfl ?_
    walk_at "sts"
    refine x_rd (d := bx2D b) hR ⟨b, o1.1, o1.2, rfl, rfl⟩ fun v1 H1 k1 r1 rv1 => ?_
    walk_at "sts"
    obtain ⟨a1, xs, rfl, na, ea, ra⟩ := id rv1.tupI
    have lx : xs.length = b.length := by rw [ra.1, List.length_map]
    have lb := o1.1.1
    refine x_lcS (.inl ea) (fun D i H' => Same H1 H' ∧ H1 D = none ∧ H' D = some (.lst ((List.replicate i (0 : Int)).map V.int))) ?_ ?_ ?_ ?_
    · exact fun D hD => ⟨Same.new (Same.refl _) hD, hD, upd_same⟩
    · exact fun D i H2 z => z.1
    · rintro D i x5 H' hx ⟨s2, hD, hy⟩
      have hi : i < xs.length := (List.getElem?_eq_some_iff.mp hx).1
      walk_at "sts"
      refine ⟨rfl, ?_⟩
      walk_at "sts"
      refine ⟨_, hy, szl (by simp; omega), Same.own s2 hD, hD, ?_⟩
      have e : (List.replicate (i + 1) (0 : Int)).map V.int = (List.replicate i (0 : Int)).map V.int ++ [V.int 0] := by
        rw [List.replicate_succ', List.map_append]
        rfl
      rw [e]
      exact upd_same
    · rintro D H2 ⟨s2, hD, hy⟩
      rw [lx] at hy
      walk_at "sts"
      refine x_tupL (SqL.of hy) fun l hl => ?_
      have s3 := Same.new (o := .tup ((List.replicate b.length (0 : Int)).map V.int)) (Same.refl H2) hl
      have r3 := (r1.same s2).same s3
      have hlp : l ∉ [p] := fun q => by
        obtain ⟨a, dx, hp⟩ := (r1.same s2).ins
        rw [List.mem_singleton.mp q, hp] at hl; cases hl
      have rz : Rp [p] (upd H2 l (.tup ((List.replicate b.length (0 : Int)).map V.int))) (.ref l) (is2D (List.replicate b.length 0)) := rps_tup (rps_ints _) hlp upd_same
      have rv3 := (rv1.same s2).same s3
      have k3 : Kp [p] H (upd H2 l (.tup ((List.replicate b.length (0 : Int)).map V.int))) := (k1.same s2).same s3
      generalize upd H2 l (.tup ((List.replicate b.length (0 : Int)).map V.int)) = H3 at r3 rz rv3 k3 ⊢
      walk_at "sts"
      refine x_cut (fun σ' H' => ∃ v2, σ' = [some (.ref p), some (.ref a1), some v2, none, none] ∧ Kp [p] H3 H' ∧ Rd9 H' C_Reader p z [("from" : Str), tI x, ("to" : Str), tI y] ∧ Rp [p] H' v2 (is2D sp)) ?_ ?_
      · obtain ⟨a, dx, hp⟩ := r3.ins
        walk_at "sts"
        refine x_m rfl hp rfl ?_
        walk_at "sts"
        refine x_due r3 ?_
        walk_at "sts"
        refine x_eqZ ?_
        walk_at "sts"
        unfold rsT at r3 ⊢
        by_cases c : List.replicate b.length 0 = sp
        · rw [if_pos c] at r3 ⊢
          refine x_dec (fun q => absurd q (show ¬ (("from" : Str) = "speed") by decide +kernel)) (fun _ => ?_)
          walk_at "sts"
          rw [c] at rz
          exact ⟨_, rfl, Kp.refl, r3, rz⟩
        · rw [if_neg c] at r3 ⊢
          refine x_dec (fun _ => ?_) (fun q => absurd rfl q)
          walk_at "sts"
          refine x_after (ts' := [("from" : Str), tI x, ("to" : Str), tI y]) (d := is2D sp) r3 (.inr (.inl ⟨rfl, sp, o2.1, o2.2, rfl, rfl⟩)) fun v3 H4 k4 r4 rv4 => ?_
          walk_at "sts"
          exact ⟨_, rfl, k4, r4, rv4⟩
      · rintro σ' H4 ⟨v2, rfl, k4, r4, rv4⟩
        have rb4 := rv3.kp k4
        walk_at "sts"
        refine x_after (d := .int x) r4 (.inl ⟨rfl, x, o3, rfl, rfl⟩) fun v5 H5 k5 r5 rv5 => ?_
        walk_at "sts"
        refine x_after (d := .int y) r5 (.inl ⟨rfl, y, o4, rfl, rfl⟩) fun v6 H6 k6 r6 rv6 => ?_
        walk_at "sts"
        refine x_mkT (ex := [p]) (ds := [bx2D b, is2D sp, .int x, .int y]) (Rps.cons ((rb4.kp k5).kp k6) (Rps.cons ((rv4.kp k5).kp k6) (Rps.cons (rv5.kp k6) (Rps.cons rv6 Rps.nil)))) r6.live (Nat.le_of_ble_eq_true rfl) fun u H7 s7 ru => ?_
        exact k u H7 ((((k3.trans k4).trans k5).trans k6).same s7) (r6.same s7) ru


theorem same_make {H H3 : Hp} {x dx : Addr} {o u : HO} (hx : H x = none) (hd : H dx = none) (ne : dx ≠ x) (k : Kp [x] (upd (upd H dx o) x u) H3) : Same H H3 := fun a w e => by
  have n1 : a ≠ x := fun z => by rw [z, hx] at e; cases e
  have n2 : a ≠ dx := fun z => by rw [z, hd] at e; cases e
  exact k _ _ (not1' n1) (upd_get' n1 (upd_get' n2 e))
def sp_parse : Sp := fun vs H Q _ => ∃ (z : Str) (s : Stm), vs = [.str z] ∧ z.length ≤ 100000 ∧ s.Ok ∧ Toks z (runE 32 32 z.cps.toList 0) (s.wd :: s.tk) ∧ ∀ v H', Same H H' → Rp [] H' v s.da → Q v H'
theorem x_parse {z : Str} {s : Stm} {H : Hp} {Q : VK} {E : XK} (hz : z.length ≤ 100000) (o : s.Ok) (t : Toks z (runE 32 32 z.cps.toList 0) (s.wd :: s.tk)) (q : ∀ v H', Same H H' → Rp [] H' v s.da → Q v H') : sp_parse [.str z] H Q E := ⟨z, s, rfl, hz, o, t, q⟩
theorem ok_parse {f : Addr} {fd : FuncData} (F : Fun K "parse" "parse" s_parse f fd) (T : Txt K mg w D_READERS D_WORDS V_read_box V_read_condition V_read_conditional V_read_drop V_read_during V_read_first V_read_list V_read_nearest V_read_nothing V_read_number V_read_pair V_read_put V_read_skyline V_read_turn C_Reader tk_ALL tk_MOST_DIGITS) (O_Reader____init__ : OkI CX0 P w K mg base 2 C_Reader "Reader" ["self", "text"] (sp_Reader____init__ C_Reader)) (O_Reader__finish : OkM CX0 P w K mg base 3 C_Reader "finish" ["self"] (sp_Reader__finish C_Reader)) (O_Reader__take : OkM CX0 P w K mg base 4 C_Reader "take" ["self", "tokens"] (sp_Reader__take K C_Reader)) (O_read_conditional : Ok P w K mg base 11 "read_conditional" ["reader"] (sp_read_conditional C_Reader)) (O_read_drop : Ok P w K mg base 6 "read_drop" ["reader"] (sp_read_drop C_Reader)) (O_read_during : Ok P w K mg base 10 "read_during" ["reader"] (sp_read_during C_Reader)) (O_read_first : Ok P w K mg base 10 "read_first" ["reader"] (sp_read_first C_Reader)) (O_read_nearest : Ok P w K mg base 10 "read_nearest" ["reader"] (sp_read_nearest C_Reader)) (O_read_nothing : Ok P w K mg base 1 "read_nothing" ["_"] (sp_read_nothing C_Reader)) (O_read_put : Ok P w K mg base 10 "read_put" ["reader"] (sp_read_put C_Reader)) (O_read_skyline : Ok P w K mg base 10 "read_skyline" ["reader"] (sp_read_skyline C_Reader)) (O_read_turn : Ok P w K mg base 10 "read_turn" ["reader"] (sp_read_turn C_Reader)) : FnOk P w K mg base CX0 12 f fd ["text"] sp_parse := by
  refine F.ok sc_parse (fun vs H Q E h => ?_) (fun cdv A outer s H vs Q E hr h => ?_)
  · obtain ⟨z, st, rfl, _⟩ := h
    rfl
  · obtain ⟨z, st, rfl, hz, o, ht, k⟩ := h
    refine ⟨_, d_parse hr T O_Reader____init__ O_Reader__finish O_Reader__take O_read_conditional O_read_drop O_read_during O_read_first O_read_nearest O_read_nothing O_read_put O_read_skyline O_read_turn, ?_⟩
    unfold t_parse
    refine x_start (σ' := [some (.str z), none, none, none, none]) rfl ?_
    walk_at "sts"
    refine x_isaB (ex := []) (d := .str z) (.str z) (by decide) (b := true) (by walk_at "isa") ?_
    walk_at "sts"
    refine x_mkA ?_
    walk_at "sts"
    intro p dx hp hdx npx
    refine ⟨p, dx, z, st.wd :: st.tk, rfl, upd_same, hz, ht, fun H3 k3 r3 => ⟨rfl, ?_⟩⟩
    have s3 := same_make hp hdx npx k3
    obtain ⟨a, dx', hp3⟩ := r3.ins
    walk_at "sts"
    refine x_m rfl hp3 rfl ?_
    walk_at "sts"
    refine x_listKd fun q H4 s4 z4 e4 => ?_
    walk_at "sts"
    have e4' : H4 q = some (.lst (kys.map V.str)) := e4
    refine x_takeR (ws := kys) (r3.same s4) (.inr (SqL.of e4')) (wd_ky o) fun H5 k5 r5 => ?_
    have ne_p : ∀ {a : Addr} {w : HO}, H3 a = some w → H a = some w → a ≠ p := fun _ e q => by subst q; rw [hp] at e; cases e
    have k35 : Kp [p] H3 H5 := Kp.trans (Same.kp s4) k5
    have fin : ∀ bk ct x3 v H6, Kp [p] H5 H6 → Rd9 H6 C_Reader p z [] → Rp [p] H6 v (.tup st.ps) →
        tSeq (tDrop (tM C_Reader "finish" (sp_Reader__finish C_Reader) (fun _ => E0) (tVar 1) tNil)) (tRet (tTup (tCons (tVar 2) (StX.tStar K (tVar 4) tNil)))) ⟨fun _ H' => Q .non H', Q, bk, ct⟩ [some (.str z), some (.ref p), some (.str st.wd), x3, some v] H6 := by
      intro bk ct x3 v H6 k6 r6 rv
      obtain ⟨a, dx', hp6⟩ := r6.ins
      walk_at "sts"
      refine x_m rfl hp6 rfl ?_
      walk_at "sts"
      refine ⟨p, z, rfl, r6, ?_⟩
      walk_at "sts"
      obtain ⟨u, xs, rfl, nu, eu, ru⟩ := rv.tupI
      refine ⟨.ref u, rfl, u, xs, rfl, .inl (SqT.of eu), ?_⟩
      walk_at "sts"
      refine x_mkT (ex := [p]) (ds := .str st.wd :: st.ps) (Rps.cons (.str _) (by rw [List.append_nil]; exact ru)) r6.live (by have := ps_len st; rw [List.length_cons]; omega) fun w' H7 s7 rw' => ?_
      exact k w' H7 (fun a w e => s7 _ _ (k6 _ _ (not1' (ne_p (s3 _ _ e) e)) (k35 _ _ (not1' (ne_p (s3 _ _ e) e)) (s3 _ _ e)))) rw'.tail
    walk_at "sts"
    cases st with
    | put kk b sp =>
      refine x_kd T.ke_READERS_put ?_
      walk_at "sts"
      refine x_eiL (x_callL rfl ?_)
      walk_at "sts"
      refine x_rd (ts' := []) r5 ⟨_, ⟨kk, b, sp, rfl⟩, o, rfl, rfl, rfl⟩ fun v H6 k6 r6 rv => ?_
      exact fin _ _ _ v H6 k6 r6 rv
    | drop kk =>
      refine x_kd T.ke_READERS_drop ?_
      walk_at "sts"
      refine x_eiR (x_eiL (x_callL rfl ?_))
      walk_at "sts"
      refine x_rd (ts' := []) r5 ⟨_, ⟨kk, rfl⟩, o, rfl, rfl, rfl⟩ fun v H6 k6 r6 rv => ?_
      exact fin _ _ _ v H6 k6 r6 rv
    | turn kk t sp =>
      refine x_kd T.ke_READERS_turn ?_
      walk_at "sts"
      refine x_eiR (x_eiR (x_eiL (x_callL rfl ?_)))
      walk_at "sts"
      refine x_rd (ts' := []) r5 ⟨_, ⟨kk, t, sp, rfl⟩, o, rfl, rfl, rfl⟩ fun v H6 k6 r6 rv => ?_
      exact fin _ _ _ v H6 k6 r6 rv
    | cond w' cs t =>
      rcases o.1 with rfl | rfl
      · refine x_kd T.ke_READERS_select ?_
        walk_at "sts"
        refine x_eiR (x_eiR (x_eiR (x_eiL (x_callL rfl ?_))))
        walk_at "sts"
        refine x_rd (ts' := []) r5 ⟨_, ⟨_, cs, t, rfl⟩, o, rfl, rfl, rfl⟩ fun v H6 k6 r6 rv => ?_
        exact fin _ _ _ v H6 k6 r6 rv
      · refine x_kd T.ke_READERS_count ?_
        walk_at "sts"
        refine x_eiR (x_eiR (x_eiR (x_eiL (x_callL rfl ?_))))
        walk_at "sts"
        refine x_rd (ts' := []) r5 ⟨_, ⟨_, cs, t, rfl⟩, o, rfl, rfl, rfl⟩ fun v H6 k6 r6 rv => ?_
        exact fin _ _ _ v H6 k6 r6 rv
    | near m b t =>
      refine x_kd T.ke_READERS_nearest ?_
      walk_at "sts"
      refine x_eiR (x_eiR (x_eiR (x_eiR (x_eiL (x_callL rfl ?_)))))
      walk_at "sts"
      refine x_rd (ts' := []) r5 ⟨_, ⟨m, b, t, rfl⟩, o, rfl, rfl, rfl⟩ fun v H6 k6 r6 rv => ?_
      exact fin _ _ _ v H6 k6 r6 rv
    | sky t =>
      refine x_kd T.ke_READERS_skyline ?_
      walk_at "sts"
      refine x_eiR (x_eiR (x_eiR (x_eiR (x_eiR (x_eiL (x_callL rfl ?_))))))
      walk_at "sts"
      refine x_rd (ts' := []) r5 ⟨_, ⟨t, rfl⟩, o, rfl, rfl, rfl⟩ fun v H6 k6 r6 rv => ?_
      exact fin _ _ _ v H6 k6 r6 rv
    | dur b x e =>
      refine x_kd T.ke_READERS_during ?_
      walk_at "sts"
      refine x_eiR (x_eiR (x_eiR (x_eiR (x_eiR (x_eiR (x_eiL (x_callL rfl ?_)))))))
      walk_at "sts"
      refine x_rd (ts' := []) r5 ⟨_, ⟨b, x, e, rfl⟩, o, rfl, rfl, rfl⟩ fun v H6 k6 r6 rv => ?_
      exact fin _ _ _ v H6 k6 r6 rv
    | fst b sp x y =>
      refine x_kd T.ke_READERS_first ?_
      walk_at "sts"
      refine x_eiR (x_eiR (x_eiR (x_eiR (x_eiR (x_eiR (x_eiR (x_eiL (x_callL rfl ?_))))))))
      walk_at "sts"
      refine x_rd (ts' := []) r5 ⟨_, ⟨b, sp, x, y, rfl⟩, o, rfl, rfl, rfl⟩ fun v H6 k6 r6 rv => ?_
      exact fin _ _ _ v H6 k6 r6 rv
    | one w' =>
      rcases o with rfl | rfl
      · refine x_kd T.ke_READERS_commit ?_
        walk_at "sts"
        refine x_eiR (x_eiR (x_eiR (x_eiR (x_eiR (x_eiR (x_eiR (x_eiR (x_callL rfl ?_))))))))
        walk_at "sts"
        refine x_rd (ts' := []) r5 ⟨_, ⟨_, rfl⟩, .inl rfl, rfl, rfl, rfl⟩ fun v H6 k6 r6 rv => ?_
        exact fin _ _ _ v H6 k6 r6 rv
      · refine x_kd T.ke_READERS_rollback ?_
        walk_at "sts"
        refine x_eiR (x_eiR (x_eiR (x_eiR (x_eiR (x_eiR (x_eiR (x_eiR (x_callL rfl ?_))))))))
        walk_at "sts"
        refine x_rd (ts' := []) r5 ⟨_, ⟨_, rfl⟩, .inr rfl, rfl, rfl, rfl⟩ fun v H6 k6 r6 rv => ?_
        exact fin _ _ _ v H6 k6 r6 rv


/-! ### a text's tokens -/
theorem tl_app (a b : Str) : (a ++ b).cps.toList = a.cps.toList ++ b.cps.toList := by
  show (a.cps ++ b.cps).toList = _
  simp
def Nx (l : List Nat) : Prop := ∀ c cs, l = c :: cs → c = 32 ∨ c = 44 ∨ c = 46 ∨ c = 93
def TokAt (t : Str) (l : List Nat) : Prop := (∃ c cs, t.cps.toList = c :: cs ∧ c ≠ 32) ∧ tokE (t.cps.toList ++ l) 0 = t.length
inductive Gl : List Nat → List Str → Prop
  | nil : Gl [] []
  | sp {l : List Nat} {ts : List Str} (h : Gl l ts) : Gl (32 :: l) ts
  | tok {t : Str} {l : List Nat} {ts : List Str} (k : TokAt t l) (h : Gl l ts) : Gl (t.cps.toList ++ l) (t :: ts)
theorem runE_pre {f l : Nat} (p x : List Nat) (k : Nat) : runE f l (p ++ x) (p.length + k) = p.length + runE f l x k := by
  unfold runE
  have e : (p ++ x).drop (p.length + k) = x.drop k := by rw [List.drop_append, List.drop_eq_nil_of_le (by omega), Nat.add_sub_cancel_left, List.nil_append]
  rw [e]
  omega
theorem getD_pre (p x : List Nat) : (p ++ x).getD p.length 0 = x.getD 0 0 := by
  rw [List.getD_eq_getElem?_getD, List.getD_eq_getElem?_getD, List.getElem?_append_right (Nat.le_refl _), Nat.sub_self]
theorem tokE_pre (p x : List Nat) : tokE (p ++ x) p.length = p.length + tokE x 0 := by
  unfold tokE
  rw [getD_pre]
  generalize x.getD 0 0 = c
  have r0 : ∀ f l, runE f l (p ++ x) p.length = p.length + runE f l x 0 := fun f l => runE_pre p x 0
  have e : (if c = 45 then p.length + 1 else p.length) = p.length + (if c = 45 then 0 + 1 else 0) := by split <;> rfl
  have ed : (p ++ x).drop p.length = x.drop 0 := by rw [List.drop_append, List.drop_eq_nil_of_le (Nat.le_refl _), Nat.sub_self, List.nil_append]
  rw [r0, e, runE_pre, ed]
  generalize (if c = 45 then 0 + 1 else 0) = d
  by_cases c1 : inB 97 122 c = true
  · rw [if_pos c1, if_pos c1]
  · rw [if_neg c1, if_neg c1]
    by_cases c2 : runE 48 57 x d > d
    · rw [if_pos c2, if_pos (by omega)]
    · rw [if_neg c2, if_neg (by omega)]
      split <;> omega
theorem gl_toks {z : Str} {l : List Nat} {ts : List Str} (h : Gl l ts) : ∀ p : List Nat, z.cps.toList = p ++ l → Toks z (runE 32 32 z.cps.toList p.length) ts := by
  induction h with
  | nil =>
    intro p e
    have el := congrArg List.length e
    rw [z_len, List.append_nil] at el
    rw [runE_end (by rw [z_len]; omega), ← el]
    exact .nil
  | @sp l ts h ih =>
    intro p e
    have g : z.cps.toList[p.length]? = some 32 := by rw [e, List.getElem?_append_right (Nat.le_refl _), Nat.sub_self]; rfl
    rw [runE_go g (by decide)]
    have := ih (p ++ [32]) (by rw [e, List.append_assoc]; rfl)
    rw [List.length_append] at this
    exact this
  | @tok t l ts k h ih =>
    intro p e
    obtain ⟨⟨c, cs, ec, hc⟩, kt⟩ := k
    have g : z.cps.toList[p.length]? = some c := by rw [e, List.getElem?_append_right (Nat.le_refl _), Nat.sub_self, ec]; rfl
    rw [runE_stop g (by
      unfold inB
      by_cases q : 32 ≤ c
      · rw [decide_eq_false (by omega : ¬ c ≤ 32), Bool.and_false]
      · rw [decide_eq_false q, Bool.false_and])]
    have el := congrArg List.length e
    rw [z_len, List.length_append, List.length_append, z_len] at el
    have tp : 0 < t.length := by rw [← z_len, ec, List.length_cons]; omega
    refine .cons (by omega) (by rw [e, tokE_pre, kt]) ?_ (by omega) ?_
    · rw [e, List.drop_append, List.drop_eq_nil_of_le (Nat.le_refl _), Nat.sub_self, List.nil_append, List.drop_zero, List.take_append_of_le_length (by rw [z_len]; omega), List.take_of_length_le (by rw [z_len]; omega)]
    · have := ih (p ++ t.cps.toList) (by rw [e, List.append_assoc])
      rw [List.length_append, z_len] at this
      exact this
theorem runE_all {f l : Nat} {x r : List Nat} (hx : ∀ c, c ∈ x → inB f l c = true) (hr : ∀ c cs, r = c :: cs → inB f l c = false) : runE f l (x ++ r) 0 = x.length := by
  unfold runE
  rw [List.drop_zero, List.takeWhile_append_of_pos hx, List.length_append]
  have : r.takeWhile (inB f l) = [] := by
    match r, hr with
    | [], _ => rfl
    | c :: cs, hr => rw [List.takeWhile_cons, if_neg (by rw [hr c cs rfl]; decide)]
  rw [this, List.length_nil]
  omega
theorem nx_no {l : List Nat} (h : Nx l) : ∀ c cs, l = c :: cs → inB 97 122 c = false ∧ inB 48 57 c = false := fun c cs e => by
  rcases h c cs e with rfl | rfl | rfl | rfl <;> decide
theorem dig_b {c : Nat} (h : 48 ≤ c ∧ c ≤ 57) : inB 48 57 c = true ∧ inB 97 122 c = false := by
  have : ∀ c, c < 58 → 48 ≤ c → (inB 48 57 c = true ∧ inB 97 122 c = false) := by decide +kernel
  exact this c (by omega) h.1
def Wdy (w : Str) : Prop := w.cps.toList ≠ [] ∧ ∀ c, c ∈ w.cps.toList → inB 97 122 c = true
theorem tok_wd {w : Str} {l : List Nat} (h : Wdy w) (n : ∀ c cs, l = c :: cs → inB 97 122 c = false) : TokAt w l := by
  obtain ⟨h0, h⟩ := h
  have k : runE 97 122 (w.cps.toList ++ l) 0 = w.cps.toList.length := runE_all h n
  rw [z_len] at k
  match e : w.cps.toList, h0, h, k with
  | c :: cs, _, h, k =>
    have hc := h c (by simp)
    refine ⟨⟨c, cs, e, fun z => ?_⟩, ?_⟩
    · rw [z] at hc
      revert hc
      decide
    · rw [e]
      unfold tokE
      have g : (c :: cs ++ l).getD 0 0 = c := rfl
      rw [g, if_pos hc]
      exact k
theorem tok_num {i : Int} {l : List Nat} (n : ∀ c cs, l = c :: cs → inB 48 57 c = false) : TokAt (tI i) l := by
  have hd : ∀ c, c ∈ TL.numL i.natAbs → inB 48 57 c = true := fun c hc => (dig_b (numL_dig hc)).1
  have k : runE 48 57 (TL.numL i.natAbs ++ l) 0 = (TL.numL i.natAbs).length := runE_all hd n
  have e := tI_tl i
  have hl : (tI i).length = (tI i).cps.toList.length := (z_len _).symm
  have lp : 0 < (TL.numL i.natAbs).length := List.length_pos_iff.mpr (TL.numL_ne _)
  unfold TokAt
  rw [hl, e]
  by_cases q : i < 0
  · rw [if_pos q]
    refine ⟨⟨45, _, rfl, by decide⟩, ?_⟩
    unfold tokE
    have g : (45 :: TL.numL i.natAbs ++ l).getD 0 0 = 45 := rfl
    have k2 : runE 48 57 (45 :: TL.numL i.natAbs ++ l) (0 + 1) = 1 + (TL.numL i.natAbs).length := by
      have := runE_pre (f := 48) (l := 57) [45] (TL.numL i.natAbs ++ l) 0
      rw [k] at this
      exact this
    rw [g, if_neg (by decide), if_pos rfl, k2, if_pos (by omega), List.length_cons]
    omega
  · rw [if_neg q]
    match en : TL.numL i.natAbs, lp, k with
    | c :: cs, lp, k =>
      have hc := numL_dig (n := i.natAbs) (c := c) (by rw [en]; simp)
      refine ⟨⟨c, _, rfl, by omega⟩, ?_⟩
      unfold tokE
      have g : (c :: cs ++ l).getD 0 0 = c := rfl
      rw [g, if_neg (by rw [(dig_b hc).2]; decide), if_neg (show ¬ c = 45 by omega), k, if_pos (by omega)]
theorem tok_one {c : Nat} {l : List Nat} (h1 : inB 97 122 c = false) (h2 : inB 48 57 c = false) (h3 : c ≠ 45) (h4 : c ≠ 46) (h5 : c ≠ 32) : TokAt ⟨#[c]⟩ l := by
  refine ⟨⟨c, [], rfl, h5⟩, ?_⟩
  show tokE (c :: l) 0 = 1
  unfold tokE
  have g : (c :: l).getD 0 0 = c := rfl
  have k : runE 48 57 (c :: l) 0 = 0 := runE_stop (c := c) rfl h2
  rw [g, if_neg (by rw [h1]; decide), if_neg h3, k, if_neg (by omega), if_neg (fun z => by
    match l, z with
    | [], z => cases z
    | d :: l, z => exact h4 (List.cons.inj z).1)]
theorem tok_dd {l : List Nat} : TokAt ⟨#[46, 46]⟩ l := by
  refine ⟨⟨46, [46], rfl, by decide⟩, ?_⟩
  show tokE (46 :: 46 :: l) 0 = 2
  unfold tokE
  have g : (46 :: 46 :: l).getD 0 0 = 46 := rfl
  have k : runE 48 57 (46 :: 46 :: l) 0 = 0 := runE_stop (c := 46) rfl (by decide)
  rw [g, if_neg (by decide), if_neg (by decide : ¬ (46 : Nat) = 45), k, if_neg (by omega), if_pos (show List.take 2 (List.drop 0 (46 :: 46 :: l)) = [46, 46] from rfl)]
/-- a piece of text, with the tokens that it is; true: a blank or a closing sign must follow -/
def Pc (b : Bool) (x : Str) (ts : List Str) : Prop := ∀ l ts', Gl l ts' → (b = true → Nx l) → Gl (x.cps.toList ++ l) (ts ++ ts')
def Hd (y : Str) : Prop := ∃ c cs, y.cps.toList = c :: cs ∧ (c = 32 ∨ c = 44 ∨ c = 46 ∨ c = 93)
theorem Pc.app {b : Bool} {x y : Str} {t u : List Str} (h : Pc false x t) (k : Pc b y u) : Pc b (x ++ y) (t ++ u) := fun l ts' g n => by
  rw [tl_app, List.append_assoc, List.append_assoc]
  exact h _ _ (k _ _ g n) fun z => nomatch z
theorem Pc.then {b : Bool} {x y : Str} {t u : List Str} (h : Pc true x t) (k : Pc b y u) (d : Hd y) : Pc b (x ++ y) (t ++ u) := fun l ts' g n => by
  rw [tl_app, List.append_assoc, List.append_assoc]
  obtain ⟨c, cs, e, q⟩ := d
  refine h _ _ (k _ _ g n) fun _ c' cs' e' => ?_
  rw [e] at e'
  rw [← (List.cons.inj e').1]
  exact q
theorem Pc.any {b : Bool} {x : Str} {t : List Str} (h : Pc false x t) : Pc b x t := fun l ts' g _ => h l ts' g fun z => nomatch z
theorem Pc.to {b : Bool} {x y : Str} {t u : List Str} (h : Pc b x t) (e : x = y) (e2 : t = u) : Pc b y u := by subst e; subst e2; exact h
theorem hd_app {x y : Str} (h : Hd x) : Hd (x ++ y) := by
  obtain ⟨c, cs, e, q⟩ := h
  exact ⟨c, cs ++ y.cps.toList, by rw [tl_app, e]; rfl, q⟩
theorem pc_wd {w : Str} (h : Wdy w) : Pc true w [w] := fun l _ g n => .tok (tok_wd h fun c cs e => (nx_no (n rfl) c cs e).1) g
theorem pc_num {i : Int} : Pc true (tI i) [tI i] := fun l _ g n => .tok (tok_num fun c cs e => (nx_no (n rfl) c cs e).2) g
theorem pc_sp : Pc false " " [] := fun l ts' g _ => by
  have e : (" " : Str).cps.toList = [32] := by decide +kernel
  rw [e]
  exact .sp g
theorem pc_nil : Pc false "" [] := fun l ts' g _ => by
  have e : ("" : Str).cps.toList = [] := by decide +kernel
  rw [e]
  exact g
theorem pc_op : Pc false "[" ["["] := fun l ts' g _ => by
  have e : ("[" : Str) = ⟨#[91]⟩ := by decide +kernel
  rw [e]
  exact .tok (tok_one (by decide) (by decide) (by decide) (by decide) (by decide)) g
theorem pc_cl : Pc false "]" ["]"] := fun l ts' g _ => by
  have e : ("]" : Str) = ⟨#[93]⟩ := by decide +kernel
  rw [e]
  exact .tok (tok_one (by decide) (by decide) (by decide) (by decide) (by decide)) g
theorem pc_co : Pc false "," [","] := fun l ts' g _ => by
  have e : ("," : Str) = ⟨#[44]⟩ := by decide +kernel
  rw [e]
  exact .tok (tok_one (by decide) (by decide) (by decide) (by decide) (by decide)) g
theorem pc_dd : Pc false ".." [".."] := fun l ts' g _ => by
  have e : (".." : Str) = ⟨#[46, 46]⟩ := by decide +kernel
  rw [e]
  exact .tok tok_dd g
theorem hd_sp : Hd " " := ⟨32, [], by decide +kernel, .inl rfl⟩
theorem pc_cm : Pc false ", " [","] := (Pc.app pc_co pc_sp).to (by decide +kernel) rfl
theorem pc_mid {w z : Str} (h : Wdy w) (e : (" " ++ (w ++ " ")) = z) : Pc false z [w] := (Pc.app pc_sp ((pc_wd h).then pc_sp hd_sp)).to e rfl
theorem wdy_of {w : Str} (h : (decide (w.cps.toList ≠ []) && w.cps.toList.all (inB 97 122)) = true) : Wdy w := by
  rw [Bool.and_eq_true] at h
  exact ⟨of_decide_eq_true h.1, fun c hc => List.all_eq_true.mp h.2 c hc⟩
theorem pc_at : Pc false " at " ["at"] := pc_mid (wdy_of (by decide +kernel)) (by decide +kernel)
theorem pc_speed : Pc false " speed " ["speed"] := pc_mid (wdy_of (by decide +kernel)) (by decide +kernel)
theorem pc_to : Pc false " to " ["to"] := pc_mid (wdy_of (by decide +kernel)) (by decide +kernel)
theorem pc_from : Pc false " from " ["from"] := pc_mid (wdy_of (by decide +kernel)) (by decide +kernel)
theorem pc_and : Pc false " and " ["and"] := pc_mid (wdy_of (by decide +kernel)) (by decide +kernel)
theorem pc_at0 : Pc false "at " ["at"] := ((pc_wd (w := "at") (wdy_of (by decide +kernel))).then pc_sp hd_sp).to (by decide +kernel) rfl
theorem hd_of {y : Str} (h : (match y.cps.toList with | [] => false | c :: _ => decide (c = 32 ∨ c = 44 ∨ c = 46 ∨ c = 93)) = true) : Hd y := by
  match e : y.cps.toList, h with
  | c :: cs, h => exact ⟨c, cs, e, of_decide_eq_true h⟩
theorem hd_7 : Hd ".." ∧ Hd ", " ∧ Hd "]" ∧ Hd " at " ∧ Hd " speed " ∧ Hd " to " ∧ Hd " from " := ⟨hd_of (by decide +kernel), hd_of (by decide +kernel), hd_of (by decide +kernel), hd_of (by decide +kernel), hd_of (by decide +kernel), hd_of (by decide +kernel), hd_of (by decide +kernel)⟩
theorem emp_app (x : Str) : Str.empty ++ x = x := s_ext (by rw [tl_app]; rfl)
theorem app_assoc (x y z : Str) : (x ++ y) ++ z = x ++ (y ++ z) := s_ext (by rw [tl_app, tl_app, tl_app, tl_app, List.append_assoc])
theorem pc_pr (q : Int × Int) : Pc true (prT q) (prK q) := by
  unfold prT prK
  split
  · exact pc_num
  · rw [emp_app, app_assoc]
    exact Pc.then pc_num (Pc.app pc_dd pc_num) (hd_app hd_7.1)
theorem join_c (a x y : Str) (ys : List Str) : Txt.join a (x :: y :: ys) = x ++ (a ++ Txt.join a (y :: ys)) := by
  show Builtin.Str.glued a (x :: y :: ys) = _ ++ (_ ++ Builtin.Str.glued a (y :: ys))
  rw [StrLaws.glued_eq_join, StrLaws.glued_eq_join]
  show (x ++ a) ++ _ = _
  rw [app_assoc]
theorem join_1 (a x : Str) : Txt.join a [x] = x := by
  show Builtin.Str.glued a [x] = x
  rw [StrLaws.glued_eq_join]
  rfl
theorem pc_ser {α : Type} {f : α → Str} {k : α → List Str} (h : ∀ x, Pc true (f x) (k x)) : ∀ (xs : List α) (x : α), Pc false (Txt.join ", " ((x :: xs).map f) ++ "]") (k x ++ tlK k xs)
  | [], x => by
    rw [List.map_cons, List.map_nil, join_1]
    exact Pc.then (h x) pc_cl hd_7.2.2.1
  | y :: ys, x => by
    rw [List.map_cons, List.map_cons, join_c, app_assoc, app_assoc]
    exact Pc.then (h x) (Pc.app pc_cm (pc_ser h ys y)) (hd_app hd_7.2.1)
theorem pc_lsT {ns : List Int} (h : 0 < ns.length) : Pc false (lsT ns) (serI ns) := by
  match ns, h with
  | x :: xs, _ =>
    unfold lsT
    rw [app_assoc]
    exact Pc.app pc_op (pc_ser (fun i => pc_num) xs x)
theorem pc_bxT {b : Bx97} (h : 0 < b.length) : Pc false (bxT b) (serK prK b) := by
  match b, h with
  | x :: xs, _ =>
    unfold bxT
    rw [app_assoc]
    exact Pc.app pc_op (pc_ser pc_pr xs x)
theorem wdy_wds {w : Str} (h : w ∈ wds) : Wdy w := by
  unfold wds at h
  simp only [List.mem_cons, List.not_mem_nil, or_false] at h
  rcases h with rfl | rfl | rfl <;> exact wdy_of (by decide +kernel)
theorem pc_cd {c : Str × Bx97} (h : c.1 ∈ wds ∧ Bok c.2 ∧ 0 < c.2.length) : Pc false (cdT c) (cdK c) := by
  unfold cdT
  rw [emp_app, app_assoc]
  exact Pc.then (pc_wd (wdy_wds h.1)) (Pc.app pc_sp (pc_bxT h.2.2)) (hd_app hd_sp)
theorem pc_cs : ∀ (cs : List (Str × Bx97)) (c : Str × Bx97), (∀ x, x ∈ c :: cs → x.1 ∈ wds ∧ Bok x.2 ∧ 0 < x.2.length) → Pc false (Txt.join " and " ((c :: cs).map cdT)) (cdK c ++ csT cs)
  | [], c, h => by
    rw [List.map_cons, List.map_nil, join_1]
    exact (pc_cd (h c (by simp))).to rfl (by simp [csT])
  | y :: ys, c, h => by
    rw [List.map_cons, List.map_cons, join_c]
    exact Pc.app (pc_cd (h c (by simp))) (Pc.app pc_and (pc_cs ys y fun x hx => h x (List.mem_cons_of_mem _ hx)))
theorem pc_csT {cs : List (Str × Bx97)} (h : CsOk cs) : Pc true (Txt.join " and " (if cs.isEmpty then ["all"] else cs.map cdT)) (csK cs) := by
  match cs, h with
  | [], _ =>
    show Pc true (Txt.join " and " ["all"]) ["all"]
    rw [join_1]
    exact pc_wd (wdy_of (by decide +kernel))
  | c :: cs, h => exact (pc_cs cs c h.2).any
theorem pc_spT {s : Option (List Int)} (h : ∀ ns, s = some ns → Nok ns ∧ 0 < ns.length) : Pc false (spT s) (spK s) := by
  cases s with
  | none => exact pc_nil
  | some ns =>
    show Pc false ((Str.empty ++ " speed ") ++ lsT ns) _
    rw [emp_app]
    exact Pc.app pc_speed (pc_lsT (h ns rfl).2)
theorem rsT_ok {b : Bx97} {s : List Int} (h : Nok s ∧ 0 < s.length) : ∀ ns, rsT b s = some ns → Nok ns ∧ 0 < ns.length := fun ns e => by
  unfold rsT at e
  split at e
  · cases e
  · cases e
    exact h
theorem hd_spT {s : Option (List Int)} {z : Str} (h : Hd z) : Hd (spT s ++ z) := by
  cases s with
  | none =>
    show Hd ("" ++ z)
    rw [show ("" : Str) = Str.empty by decide +kernel, emp_app]
    exact h
  | some ns =>
    show Hd (((Str.empty ++ " speed ") ++ lsT ns) ++ z)
    rw [emp_app, app_assoc]
    exact hd_app hd_7.2.2.2.2.1
theorem pc_told {s : Stm} (h : s.Ok) : Pc true s.told s.tk := by
  cases s with
  | put k b s =>
    show Pc true ((((Str.empty ++ tI k) ++ " ") ++ bxT b) ++ spT s) _
    rw [emp_app, app_assoc, app_assoc]
    exact Pc.then pc_num (Pc.app (t := []) (u := serK prK b ++ spK s) pc_sp (Pc.app (pc_bxT h.2.1.2) (pc_spT h.2.2).any)) (hd_app hd_sp)
  | drop k => exact pc_num
  | turn k t s =>
    show Pc true (((((Str.empty ++ tI k) ++ " at ") ++ tI t) ++ " speed ") ++ lsT s) _
    rw [emp_app, app_assoc, app_assoc, app_assoc]
    exact Pc.then pc_num (Pc.app pc_at (Pc.then pc_num (Pc.app pc_speed (pc_lsT h.2.2.2).any) (hd_app hd_7.2.2.2.2.1))) (hd_app hd_7.2.2.2.1)
  | cond w cs t =>
    show Pc true (Txt.join " and " (if cs.isEmpty then ["all"] else cs.map cdT) ++ ((Str.empty ++ " at ") ++ tI t)) _
    rw [emp_app]
    exact Pc.then (pc_csT h.2.1) (Pc.app pc_at pc_num) (hd_app hd_7.2.2.2.1)
  | near m b t =>
    show Pc true (((((Str.empty ++ tI m) ++ " to ") ++ bxT b) ++ " at ") ++ tI t) _
    rw [emp_app, app_assoc, app_assoc, app_assoc]
    exact Pc.then pc_num (Pc.app pc_to (Pc.app (pc_bxT h.2.1.2) (Pc.app pc_at pc_num))) (hd_app hd_7.2.2.2.2.2.1)
  | sky t =>
    show Pc true ((Str.empty ++ "at ") ++ tI t) _
    rw [emp_app]
    exact Pc.app pc_at0 pc_num
  | dur b x e =>
    show Pc true (((((Str.empty ++ bxT b) ++ " from ") ++ tI x) ++ " to ") ++ tI e) _
    rw [emp_app, app_assoc, app_assoc, app_assoc]
    exact Pc.app (pc_bxT h.1.2) (Pc.app pc_from (Pc.then pc_num (Pc.app pc_to pc_num) (hd_app hd_7.2.2.2.2.2.1)))
  | fst b s x y =>
    show Pc true ((((((Str.empty ++ bxT b) ++ spT (rsT b s)) ++ " from ") ++ tI x) ++ " to ") ++ tI y) _
    rw [emp_app, app_assoc, app_assoc, app_assoc, app_assoc]
    exact Pc.app (pc_bxT h.1.2) (Pc.app (pc_spT (rsT_ok h.2.1)) (Pc.app pc_from (Pc.then pc_num (Pc.app pc_to pc_num) (hd_app hd_7.2.2.2.2.2.1))))
  | one w => exact pc_nil.any
theorem wdy_kys : ∀ w, w ∈ kys → (decide (w.cps.toList ≠ []) && w.cps.toList.all (inB 97 122)) = true ∧ w.length ≤ 8 := by decide +kernel
theorem wdy_wd {s : Stm} (h : s.Ok) : Wdy s.wd := wdy_of (wdy_kys _ (wd_ky h)).1
theorem pc_text {s : Stm} (h : s.Ok) : Pc true s.text (s.wd :: s.tk) := by
  have k : ∀ s : Stm, s.Ok → Pc true (((Str.empty ++ s.wd) ++ " ") ++ s.told) (s.wd :: s.tk) := fun s h => by
    rw [emp_app, app_assoc]
    exact Pc.then (pc_wd (wdy_wd h)) (Pc.app pc_sp (pc_told h)) (hd_app hd_sp)
  cases s with
  | one w => exact pc_wd (wdy_wd h)
  | _ => exact k _ h
theorem text_toks {s : Stm} (h : s.Ok) : Toks s.text (runE 32 32 s.text.cps.toList 0) (s.wd :: s.tk) := by
  have g := pc_text h [] [] .nil fun _ c cs e => nomatch e
  rw [List.append_nil, List.append_nil] at g
  exact gl_toks g [] rfl
theorem text_len {s : Stm} (h : s.Ok) : s.text.length ≤ 100000 := by
  have t := told_len h
  have e := len2.1
  have z := len1.2.2.2.2
  have w : s.wd.length ≤ 8 := (wdy_kys _ (wd_ky h)).2
  have k : (((Str.empty ++ s.wd) ++ " ") ++ s.told).length ≤ 100000 := by
    rw [len_addS, len_addS, len_addS, e, z]
    omega
  cases s with
  | one w' => have : w'.length ≤ 8 := w; show w'.length ≤ _; omega
  | _ => exact k


/-! ### the law's own tokens -/
theorem rng_in {z : Str} {a n : Nat} (e : z.cps.toList = List.range' a n) (h : 0 < n) (c : Nat) : decide (c ∈ z.cps.toList) = inB a (a + n - 1) c := by
  rw [e]
  unfold inB
  rw [← Bool.decide_and]
  exact decide_eq_decide.mpr (by rw [List.mem_range'_1]; omega)
def azS : Str := "abcdefghijklmnopqrstuvwxyz"
def dgS : Str := "0123456789"
theorem az_in (c : Nat) : decide (c ∈ azS.cps.toList) = inB 97 122 c := rng_in (n := 26) (by decide +kernel) (by decide) c
theorem dg_in (c : Nat) : decide (c ∈ dgS.cps.toList) = inB 48 57 c := rng_in (n := 10) (by decide +kernel) (by decide) c
theorem sp_in (c : Nat) : decide (c ∈ (" " : Str).cps.toList) = inB 32 32 c := rng_in (n := 1) (by decide +kernel) (by decide) c
theorem nm_in (c : Nat) : decide (c ∈ ("-0123456789" : Str).cps.toList) = (decide (c = 45) || inB 48 57 c) := by
  have e : ("-0123456789" : Str).cps.toList = 45 :: List.range' 48 10 := by decide +kernel
  rw [e]
  unfold inB
  rw [← Bool.decide_and, ← Bool.decide_or]
  exact decide_eq_decide.mpr (by rw [List.mem_cons, List.mem_range'_1]; omega)
theorem sg_in (c : Nat) : decide (c ∈ ("[]," : Str).cps.toList) = decide (c = 91 ∨ c = 93 ∨ c = 44) := by
  have e : ("[]," : Str).cps.toList = [91, 93, 44] := by decide +kernel
  rw [e]
  exact decide_eq_decide.mpr (by simp)
def sp__law_run : Sp := fun vs H Q _ => ∃ (z ls : Str) (a f l : Nat), vs = [.str z, .int (a : Int), .str ls] ∧ z.length ≤ 100000 ∧ a ≤ z.length ∧ (∀ c, decide (c ∈ ls.cps.toList) = inB f l c) ∧ Q (.int (runE f l z.cps.toList a : Nat)) H
theorem x_lrun {z ls : Str} {a f l : Nat} {i : Int} {H : Hp} {Q : VK} {E : XK} (hi : i = (a : Int)) (hz : z.length ≤ 100000) (ha : a ≤ z.length) (hl : ∀ c, decide (c ∈ ls.cps.toList) = inB f l c) (q : Q (.int (runE f l z.cps.toList a : Nat)) H) : sp__law_run [.str z, .int i, .str ls] H Q E := by
  subst hi
  exact ⟨z, ls, a, f, l, rfl, hz, ha, hl, q⟩
theorem ok__law_run {f : Addr} {fd : FuncData} (F : Fun K "_law_run" "_law_run" s__law_run f fd) (T : Txt K mg w D_READERS D_WORDS V_read_box V_read_condition V_read_conditional V_read_drop V_read_during V_read_first V_read_list V_read_nearest V_read_nothing V_read_number V_read_pair V_read_put V_read_skyline V_read_turn C_Reader tk_ALL tk_MOST_DIGITS)  : FnOk P w K mg base CX0 1 f fd ["text", "at", "letters"] sp__law_run := by
  refine F.ok sc__law_run (fun vs H Q E h => ?_) (fun cdv A outer s H vs Q E hr h => ?_)
  · obtain ⟨z, ls, a, f, l, rfl, _⟩ := h
    rfl
  · obtain ⟨z, ls, a, f', l, rfl, hz, ha, hl, k⟩ := h
    refine ⟨_, d__law_run hr T , ?_⟩
    unfold t__law_run
    refine x_start (σ' := [some (.str z), some (.int (a : Int)), some (.str ls), none, none]) rfl ?_
    walk_at "sts"
    refine x_cut (fun σ' H' => ∃ x4, σ' = [some (.str z), some (.int (a : Int)), some (.str ls), some (.int (runE f' l z.cps.toList a : Nat)), x4] ∧ H' = H) ?_ ?_
    · walk_at "sts"
      refine x_lenStr hz ?_
      walk_at "sts"
      refine x_rng z.length (by omega) rfl ?_
      refine x_loopR (fun i σ H' => ∃ (b : Nat) (x4 : Option V), σ = [some (.str z), some (.int (a : Int)), some (.str ls), some (.int (b : Int)), x4] ∧ H' = H ∧ b = a + i ∧ b ≤ z.length ∧ runE f' l z.cps.toList b = runE f' l z.cps.toList a) ?_ ?_ ?_
      · exact ⟨a, _, rfl, rfl, rfl, ha, rfl⟩
      · rintro i σ H' hi ⟨b, x4, rfl, rfl, hb, hbz, e⟩
        walk_at "sts"
        refine x_lenStr hz ?_
        walk_at "sts"
        refine x_dec (fun c => ?_) (fun c => ?_)
        · have hb' : b < z.cps.toList.length := by rw [z_len]; omega
          have g : z.cps.toList[b]? = some z.cps.toList[b] := List.getElem?_eq_getElem hb'
          generalize z.cps.toList[b] = ch at g
          walk_at "sts"
          refine x_ixStr hz (atI_nat g) ?_
          walk_at "sts"
          refine x_inS1 ?_
          rw [hl]
          walk_at "sts"
          cases hc : inB f' l ch with
          | true =>
            walk_at "sts"
            exact ⟨b + 1, _, rfl, rfl, by omega, by omega, (runE_go g hc).symm.trans e⟩
          | false =>
            walk_at "sts"
            refine ⟨some (.int (i : Int)), ?_, rfl⟩
            rw [← e, runE_stop g hc]
            rfl
        · walk_at "sts"
          refine ⟨some (.int (i : Int)), ?_, rfl⟩
          rw [← e, runE_end (by rw [z_len]; omega)]
          rfl
      · rintro σ H' ⟨b, x4, rfl, rfl, hb, hbz, e⟩
        refine ⟨x4, ?_, rfl⟩
        rw [← e, runE_end (by rw [z_len]; omega)]
    · rintro σ' H' ⟨x4, rfl, rfl⟩
      walk_at "sts"
      exact k


/-! ### tokens told with their kinds -/
def sgs : List Str := ["..", "[", "]", ","]
def Tk (t k : Str) : Prop := (Wdy t ∧ k = "word") ∨ ((∃ i, Sm i ∧ t = tI i) ∧ k = "number") ∨ (t ∈ sgs ∧ k = "sign")
structure Te where
  k : Str
  t : Str
  a : Nat
def Te.da (e : Te) : Da := .tup [.str e.k, .str e.t, .int (e.a : Int)]
def endD (z : Str) : Da := .tup [.str "end", .str "", .int (z.length : Int)]
def Tes (L : List Te) (ts : List Str) : Prop := L.map Te.t = ts ∧ ∀ e, e ∈ L → Tk e.t e.k
theorem tok_hd {zs : List Nat} {a n c : Nat} {cs : List Nat} (h : (zs.drop a).take n = c :: cs) : zs[a]? = some c := by
  have e := congrArg (fun l : List Nat => l[0]?) h
  simp only [List.getElem?_cons_zero] at e
  rw [List.getElem?_take] at e
  split at e
  · rw [List.getElem?_drop, Nat.add_zero] at e
    exact e
  · cases e
theorem getD_of {zs : List Nat} {a c : Nat} (h : zs[a]? = some c) : zs.getD a 0 = c := by
  rw [List.getD_eq_getElem?_getD, h]
  rfl
theorem tok_w {zs : List Nat} {a n c : Nat} (g : zs[a]? = some c) (hc : inB 97 122 c = true) (h : tokE zs a = a + n) : runE 97 122 zs a = a + n := by
  unfold tokE at h
  rw [getD_of g, if_pos hc] at h
  exact h
theorem tok_n {zs : List Nat} {a n c : Nat} (g : zs[a]? = some c) (hc : c = 45 ∧ 2 ≤ n ∨ inB 48 57 c = true) (h : tokE zs a = a + n) : runE 48 57 zs (a + 1) = a + n := by
  unfold tokE at h
  rcases hc with ⟨rfl, hn⟩ | hc
  · rw [getD_of g, if_neg (by decide), if_pos rfl] at h
    by_cases q : runE 48 57 zs (a + 1) > a + 1
    · rw [if_pos q] at h
      exact h
    · rw [if_neg q] at h
      have e : ¬ (zs.drop a).take 2 = [46, 46] := fun z => by
        have := tok_hd z
        rw [g] at this
        cases this
      rw [if_neg e] at h
      omega
  · have c1 : inB 97 122 c = false := by
      unfold inB at hc ⊢
      rw [Bool.and_eq_true] at hc
      have := of_decide_eq_true hc.2
      rw [decide_eq_false (by omega), Bool.false_and]
    have c2 : ¬ c = 45 := fun z => by subst z; revert hc; decide
    have r := runE_go g hc
    have hl : a + 1 ≤ zs.length := by
      have := (List.getElem?_eq_some_iff.mp g).1
      omega
    have r2 := (runE_le (f := 48) (l := 57) hl).1
    rw [getD_of g, if_neg (by rw [c1]; decide), if_neg c2, if_pos (by omega), r] at h
    exact h
/-- the signs of a number -/
theorem num_hd {i : Int} (h : Sm i) : ∃ c cs, (tI i).cps.toList = c :: cs ∧ (c = 45 ∧ i < 0 ∧ 2 ≤ (tI i).length ∧ cs = TL.numL i.natAbs ∨ inB 48 57 c = true ∧ ¬ i < 0 ∧ c ≠ 45 ∧ c :: cs = TL.numL i.natAbs) := by
  have e := tI_tl i
  have hl : (tI i).length = (tI i).cps.toList.length := (z_len _).symm
  have lp : 0 < (TL.numL i.natAbs).length := List.length_pos_iff.mpr (TL.numL_ne _)
  by_cases q : i < 0
  · rw [if_pos q] at e
    refine ⟨45, _, e, .inl ⟨rfl, q, ?_, rfl⟩⟩
    rw [hl, e, List.length_cons]
    omega
  · rw [if_neg q] at e
    match en : TL.numL i.natAbs, lp with
    | c :: cs, _ =>
      have hc := numL_dig (n := i.natAbs) (c := c) (by rw [en]; simp)
      rw [en] at e
      exact ⟨c, cs, e, .inr ⟨(dig_b hc).1, q, by omega, rfl⟩⟩


theorem te_app {ex : List Addr} {H : Hp} {p t : Addr} {xs : List V} {ds : List Da} {e : Te} (L : Live ex H) (hp : H p = some (.lst xs)) (r : Rps (p :: ex) H xs ds) (ht : H t = none) : Rps (p :: ex) (upd (upd H t (.tup [.str e.k, .str e.t, .int (e.a : Int)])) p (.lst (xs ++ [.ref t]))) (xs ++ [.ref t]) (ds ++ [e.da]) := by
  have ntp : t ≠ p := fun z => by rw [z, hp] at ht; cases ht
  have nt : t ∉ p :: ex := fun z => by
    rcases List.mem_cons.mp z with z | z
    · exact ntp z
    · exact L.new ht z
  have kk : Kp (p :: ex) H (upd (upd H t (.tup [.str e.k, .str e.t, .int (e.a : Int)])) p (.lst (xs ++ [.ref t]))) := (Kp.refl.new ht).mut (List.mem_cons_self ..)
  refine rps_snoc (rps_kp r kk) ?_
  exact rps_tup (xs := [.str e.k, .str e.t, .int (e.a : Int)]) (Rps.cons (.str _) (Rps.cons (.str _) (Rps.cons (.int _) Rps.nil))) nt (upd_get' ntp upd_same)
theorem tes_snoc {L : List Te} {ts : List Str} {e : Te} (h : Tes L ts) (k : Tk e.t e.k) : Tes (L ++ [e]) (ts ++ [e.t]) := ⟨by rw [List.map_append, h.1]; rfl, fun x hx => by
  rcases List.mem_append.mp hx with hx | hx
  · exact h.2 x hx
  · rw [List.mem_singleton.mp hx]
    exact k⟩
theorem cut_tok {z t : Str} {a : Nat} (h3 : (z.cps.toList.drop a).take t.length = t.cps.toList) (h4 : a + t.length ≤ z.length) : cutS z (some (a : Int)) (some ((a + t.length : Nat) : Int)) = t := s_ext (by
  rw [cut_tl, Nat.min_eq_left h4, Nat.min_eq_left (by omega), ← h3]
  congr 1
  omega)
def TokF (z : Str) (a : Nat) (t k : Str) (c : Nat) : Prop :=
  (k = "word" ∧ inB 97 122 c = true ∧ runE 97 122 z.cps.toList a = a + t.length) ∨
  (k = "number" ∧ inB 97 122 c = false ∧ (decide (c = 45) || inB 48 57 c) = true ∧ runE 48 57 z.cps.toList (a + 1) = a + t.length ∧ ∃ i, Sm i ∧ t = tI i) ∨
  (k = "sign" ∧ inB 97 122 c = false ∧ (decide (c = 45) || inB 48 57 c) = false ∧ ((t = ".." ∧ c = 46) ∨ (t.length = 1 ∧ (c = 91 ∨ c = 93 ∨ c = 44))))
theorem tok_f {z t k : Str} {a : Nat} (h2 : tokE z.cps.toList a = a + t.length) (h3 : (z.cps.toList.drop a).take t.length = t.cps.toList) (hk : Tk t k) : ∃ c cs, t.cps.toList = c :: cs ∧ z.cps.toList[a]? = some c ∧ TokF z a t k c := by
  rcases hk with ⟨hw, rfl⟩ | ⟨⟨i, hi, rfl⟩, rfl⟩ | ⟨hs, rfl⟩
  · match e : t.cps.toList, hw.1 with
    | c :: cs, _ =>
      have g := tok_hd (h3.trans e)
      have hc := hw.2 c (by rw [e]; simp)
      exact ⟨c, cs, rfl, g, .inl ⟨rfl, hc, tok_w g hc h2⟩⟩
  · obtain ⟨c, cs, e, q⟩ := num_hd hi
    have g := tok_hd (h3.trans e)
    refine ⟨c, cs, e, g, .inr (.inl ⟨rfl, ?_, ?_, ?_, i, hi, rfl⟩)⟩
    · rcases q with ⟨rfl, _⟩ | ⟨q, _, _, en⟩
      · decide
      · exact (dig_b (numL_dig (n := i.natAbs) (c := c) (by rw [← en]; simp))).2
    · rcases q with ⟨rfl, _⟩ | ⟨q, _⟩
      · decide
      · rw [q, Bool.or_true]
    · rcases q with ⟨q, _, l, _⟩ | ⟨q, _⟩
      · exact tok_n g (.inl ⟨q, l⟩) h2
      · exact tok_n g (.inr q) h2
  · unfold sgs at hs
    simp only [List.mem_cons, List.not_mem_nil, or_false] at hs
    have e1 : (".." : Str).cps.toList = [46, 46] := by decide +kernel
    have e2 : ("[" : Str).cps.toList = [91] := by decide +kernel
    have e3 : ("]" : Str).cps.toList = [93] := by decide +kernel
    have e4 : ("," : Str).cps.toList = [44] := by decide +kernel
    rcases hs with rfl | rfl | rfl | rfl
    · exact ⟨_, _, e1, tok_hd (h3.trans e1), .inr (.inr ⟨rfl, by decide, by decide, .inl ⟨rfl, rfl⟩⟩)⟩
    · exact ⟨_, _, e2, tok_hd (h3.trans e2), .inr (.inr ⟨rfl, by decide, by decide, .inr ⟨by decide +kernel, by decide⟩⟩)⟩
    · exact ⟨_, _, e3, tok_hd (h3.trans e3), .inr (.inr ⟨rfl, by decide, by decide, .inr ⟨by decide +kernel, by decide⟩⟩)⟩
    · exact ⟨_, _, e4, tok_hd (h3.trans e4), .inr (.inr ⟨rfl, by decide, by decide, .inr ⟨by decide +kernel, by decide⟩⟩)⟩


theorem cut_dig {z : Str} {i : Int} {a : Nat} (h3 : (z.cps.toList.drop a).take (tI i).length = (tI i).cps.toList) (h4 : a + (tI i).length ≤ z.length) (hn : i < 0) : cutS z (some ((a : Int) + 1)) (some ((a + (tI i).length : Nat) : Int)) = SX.S (TL.numL i.natAbs) := s_ext (by
  have e := tI_tl i
  rw [if_pos hn] at e
  have l : (tI i).length = (TL.numL i.natAbs).length + 1 := by rw [← z_len, e, List.length_cons]
  have c := cut_tl z (a + 1) (a + (tI i).length)
  rw [show ((a + 1 : Nat) : Int) = (a : Int) + 1 by omega, Nat.min_eq_left h4, Nat.min_eq_left (by omega : a + 1 ≤ z.length)] at c
  have c2 : ((z.cps.toList.drop a).take ((TL.numL i.natAbs).length + 1)).drop 1 = TL.numL i.natAbs := by
    rw [l, e] at h3
    rw [h3]
    rfl
  rw [List.drop_take, List.drop_drop] at c2
  rw [c, l]
  have q : a + ((TL.numL i.natAbs).length + 1) - (a + 1) = (TL.numL i.natAbs).length + 1 - 1 := by omega
  rw [q]
  exact c2)
def sp__law_tokens : Sp := fun vs H Q _ => ∃ (ex : List Addr) (z : Str) (ts : List Str), vs = [.str z] ∧ Live ex H ∧ z.length ≤ 99000 ∧ Toks z (runE 32 32 z.cps.toList 0) ts ∧ (∀ t, t ∈ ts → ∃ k, Tk t k) ∧ ∀ v H' L, Same H H' → Tes L ts → Rp ex H' v (.lst (L.map Te.da ++ [endD z])) → Q v H'
theorem x_ltokens {ex : List Addr} {z : Str} {ts : List Str} {H : Hp} {Q : VK} {E : XK} (l : Live ex H) (hz : z.length ≤ 99000) (t : Toks z (runE 32 32 z.cps.toList 0) ts) (k : ∀ t, t ∈ ts → ∃ k, Tk t k) (q : ∀ v H' L, Same H H' → Tes L ts → Rp ex H' v (.lst (L.map Te.da ++ [endD z])) → Q v H') : sp__law_tokens [.str z] H Q E := ⟨ex, z, ts, rfl, l, hz, t, k, q⟩
theorem tes_len {L : List Te} {ts : List Str} (h : Tes L ts) : ts.length = L.length := by rw [← h.1, List.length_map]
set_option maxHeartbeats 1000000 in
theorem ok__law_tokens {f : Addr} {fd : FuncData} (F : Fun K "_law_tokens" "_law_tokens" s__law_tokens f fd) (T : Txt K mg w D_READERS D_WORDS V_read_box V_read_condition V_read_conditional V_read_drop V_read_during V_read_first V_read_list V_read_nearest V_read_nothing V_read_number V_read_pair V_read_put V_read_skyline V_read_turn C_Reader tk_ALL tk_MOST_DIGITS) (O__law_run : Ok P w K mg base 1 "_law_run" ["text", "at", "letters"] (sp__law_run)) : FnOk P w K mg base CX0 2 f fd ["text"] sp__law_tokens := by
  refine F.ok sc__law_tokens (fun vs H Q E h => ?_) (fun cdv A outer s H vs Q E hr h => ?_)
  · obtain ⟨ex, z, ts, rfl, _⟩ := h
    rfl
  · obtain ⟨ex, z, ts, rfl, Lv, hz, ht, hk, k⟩ := h
    have hz' : z.length ≤ 100000 := by omega
    refine ⟨_, d__law_tokens hr T O__law_run, ?_⟩
    unfold t__law_tokens
    refine x_start (σ' := [some (.str z), none, none, none, none, none, none]) rfl ?_
    walk_at "sts"
    refine x_mkl (m := 0) rfl (by decide) fun p hp => ?_
    walk_at "sts"
    refine x_cut (fun σ' H' => ∃ (L : List Te) (xs : List V) (b : Nat) (x3 x4 x5 x6 : Option V), σ' = [some (.str z), some (.ref p), some (.int (b : Int)), x3, x4, x5, x6] ∧ Same H H' ∧ H' p = some (.lst xs) ∧ Rps (p :: ex) H' xs (L.map Te.da) ∧ Tes L ts ∧ L.length ≤ 99000) ?_ ?_
    · walk_at "sts"
      refine x_lenStr hz' ?_
      walk_at "sts"
      refine x_rng (z.length + 1) (by omega) rfl ?_
      refine x_loopR (fun i σ H' => ∃ (L : List Te) (t1 t2 : List Str) (xs : List V) (b : Nat) (x3 x4 x5 x6 : Option V), σ = [some (.str z), some (.ref p), some (.int (b : Int)), x3, x4, x5, x6] ∧ Same H H' ∧ H' p = some (.lst xs) ∧ Rps (p :: ex) H' xs (L.map Te.da) ∧ Tes L t1 ∧ ts = t1 ++ t2 ∧ Toks z (runE 32 32 z.cps.toList b) t2 ∧ b ≤ z.length ∧ i ≤ b ∧ L.length ≤ i) ?_ ?_ ?_
      · exact ⟨[], [], ts, [], 0, _, _, _, _, rfl, Same.new (Same.refl H) hp, upd_same, Rps.nil, ⟨rfl, fun e h => nomatch h⟩, rfl, ht, Nat.zero_le _, Nat.le_refl _, Nat.le_refl _⟩
      · rintro i σ H' hi ⟨L, t1, t2, xs, b, x3, x4, x5, x6, rfl, s', hl, rl, te, rfl, tk, hb, ib, li⟩
        have hxl : xs.length = L.length := by rw [rl.1, List.length_map]
        walk_at "sts"
        refine x_lrun rfl hz' hb sp_in ?_
        have hr := runE_le (f := 32) (l := 32) (zs := z.cps.toList) (a := b) (by rw [z_len]; exact hb)
        generalize runE 32 32 z.cps.toList b = a at tk hr
        walk_at "sts"
        refine x_lenStr hz' ?_
        walk_at "sts"
        cases tk with
        | nil =>
          refine x_dec (fun _ => ?_) (fun c => absurd (Int.le_refl _) c)
          walk_at "sts"
          exact ⟨L, xs, _, _, _, _, _, rfl, s', hl, rl, by rw [List.append_nil]; exact te, by omega⟩
        | @cons _ t t2 h1 h2 h3 h4 r =>
          refine x_dec (fun c => absurd c (by omega)) (fun _ => ?_)
          obtain ⟨kk, hkk⟩ := hk t (by simp)
          obtain ⟨c, cs, et, g, fact⟩ := tok_f h2 h3 hkk
          have tp : 0 < t.length := by rw [← z_len, et, List.length_cons]; omega
          have fin : ∀ (q : Addr) (x3 x5 x6 : Option V), H' q = none → ∃ (L : List Te) (t1' t2' : List Str) (xs' : List V) (b : Nat) (y3 y4 y5 y6 : Option V), [some (.str z), some (.ref p), some (.int ((a + t.length : Nat) : Int)), x3, some (.int (a : Int)), x5, x6] = [some (.str z), some (.ref p), some (.int (b : Int)), y3, y4, y5, y6] ∧ Same H (upd (upd H' q (.tup [.str kk, .str t, .int (a : Int)])) p (.lst (xs ++ [.ref q]))) ∧ upd (upd H' q (.tup [.str kk, .str t, .int (a : Int)])) p (.lst (xs ++ [.ref q])) p = some (.lst xs') ∧ Rps (p :: ex) (upd (upd H' q (.tup [.str kk, .str t, .int (a : Int)])) p (.lst (xs ++ [.ref q]))) xs' (L.map Te.da) ∧ Tes L t1' ∧ t1 ++ t :: t2 = t1' ++ t2' ∧ Toks z (runE 32 32 z.cps.toList b) t2' ∧ b ≤ z.length ∧ i + 1 ≤ b ∧ L.length ≤ i + 1 := fun q x3 x5 x6 hq =>
            ⟨L ++ [⟨kk, t, a⟩], t1 ++ [t], t2, xs ++ [.ref q], a + t.length, x3, _, x5, x6, rfl, Same.own (Same.new s' hq) hp, upd_same, by rw [List.map_append]; exact te_app (e := ⟨kk, t, a⟩) (Lv.same s') hl rl hq, tes_snoc (e := ⟨kk, t, a⟩) te hkk, by rw [List.append_assoc]; rfl, r, h4, by omega, by simp; omega⟩
          walk_at "sts"
          refine x_ixStr hz' (atI_nat g) ?_
          walk_at "sts"
          refine x_inS1 ?_
          rw [show decide (c ∈ ("abcdefghijklmnopqrstuvwxyz" : Str).cps.toList) = inB 97 122 c from az_in c]
          rcases fact with ⟨rfl, c1, re⟩ | ⟨rfl, c1, c2, re, n, hn, rfl⟩ | ⟨rfl, c1, c2, q⟩
          · rw [c1]
            walk_at "sts"
            refine x_lrun rfl hz' (Nat.le_of_lt h1) az_in ?_
            rw [re]
            walk_at "sts"
            refine x_bmL hl ?_
            walk_at "sts"
            refine x_slS hz' ?_
            rw [cut_tok h3 h4]
            walk_at "sts"
            refine x_mkt (m := 3) rfl (by decide) fun q hq => ?_
            walk_at "sts"
            refine x_app (upd_get hq hl) (szl (by omega)) ?_
            exact fin q _ _ _ hq
          · rw [c1]
            walk_at "sts"
            refine x_ixStr hz' (atI_nat g) ?_
            walk_at "sts"
            refine x_inS1 ?_
            rw [nm_in, c2]
            walk_at "sts"
            refine x_lrun (a := a + 1) (by omega) hz' (by omega) dg_in ?_
            rw [re]
            obtain ⟨c', cs', e', q'⟩ := num_hd hn
            rw [et] at e'
            obtain ⟨rfl, rfl⟩ := List.cons.inj e'
            clear e'
            have ln : (TL.numL n.natAbs).length ≤ 12 := TL.numL_len (by decide) hn
            have l0 : 0 < (TL.numL n.natAbs).length := List.length_pos_iff.mpr (TL.numL_ne _)
            have ls : (SX.S (TL.numL n.natAbs)).length = (TL.numL n.natAbs).length := by rw [← z_len]
            have e45 : ("-" : Str) = ⟨#[45]⟩ := by decide +kernel
            have e48 : ("0" : Str) = ⟨#[48]⟩ := by decide +kernel
            walk_at "sts"
            refine x_cut (fun σ' H'' => σ' = [some (.str z), some (.ref p), some (.int ((a + (tI n).length : Nat) : Int)), some (.int (i : Int)), some (.int (a : Int)), some (.str (SX.S (TL.numL n.natAbs))), x6] ∧ H'' = H') ?_ ?_
            · walk_at "sts"
              refine x_ixStr hz' (atI_nat g) ?_
              walk_at "sts"
              refine x_eqZ ?_
              rw [e45]
              walk_at "sts"
              refine x_dec (fun q => ?_) (fun q => ?_)
              · have q := (one_eq _ _).mp q
                have nn : n < 0 := by
                  rcases q' with ⟨_, h, _⟩ | ⟨_, _, h, _⟩
                  · exact h
                  · exact absurd q h
                walk_at "sts"
                refine x_slS hz' ?_
                rw [cut_dig h3 h4 nn]
                walk_at "sts"
                exact ⟨rfl, rfl⟩
              · have nn : ¬ n < 0 := by
                  rcases q' with ⟨h, _⟩ | ⟨_, h, _⟩
                  · exact absurd ((one_eq _ _).mpr h) q
                  · exact h
                walk_at "sts"
                refine x_slS hz' ?_
                have ee : tI n = SX.S (TL.numL n.natAbs) := s_ext (by rw [tI_tl, if_neg nn])
                rw [cut_tok h3 h4]
                walk_at "sts"
                exact ⟨by rw [← ee]; rfl, rfl⟩
            · rintro σ' H'' ⟨rfl, rfl⟩
              obtain ⟨d, ds, ed⟩ : ∃ d ds, TL.numL n.natAbs = d :: ds := by
                match TL.numL n.natAbs, l0 with
                | d :: ds, _ => exact ⟨d, ds, rfl⟩
              refine x_seqK (fun σ' H' => σ' = [some (.str z), some (.ref p), some (.int ((a + (tI n).length : Nat) : Int)), some (.int (i : Int)), some (.int (a : Int)), some (.str (SX.S (TL.numL n.natAbs))), some (.bl false)] ∧ H' = H'') (fun N hN => ?_) ?_
              · walk_at "sts"
                refine x_lenStr (by rw [ls]; omega) ?_
                rw [ls]
                walk_at "sts"
                refine x_dec (fun c => absurd c (by omega)) (fun _ => ?_)
                walk_at "sts"
                refine x_lenStr (by rw [ls]; omega) ?_
                rw [ls]
                walk_at "sts"
                refine x_dec (fun c => absurd c (by omega)) (fun _ => ?_)
                walk_at "sts"
                refine x_ixStr (by rw [ls]; omega) (c := d) (by
                  show atI (TL.numL n.natAbs).toArray.toList 0 = some d
                  rw [ed]
                  exact atI_nat (j := 0) (v := d) rfl) ?_
                walk_at "sts"
                refine x_eqZ ?_
                rw [e48]
                walk_at "sts"
                refine x_dec (fun q => ?_) (fun q => ?_)
                · have q := (one_eq _ _).mp q
                  have n0 : n = 0 := Classical.byContradiction fun h => by
                    obtain ⟨d', ds', ed', hd'⟩ := tI_zero h
                    rw [ed] at ed'
                    exact hd' ((List.cons.inj ed').1.symm.trans q)
                  have l1 : (TL.numL n.natAbs).length = 1 := by rw [n0]; decide +kernel
                  have cn : ¬ c = 45 := by
                    rcases q' with ⟨_, h, _⟩ | ⟨_, _, h, _⟩
                    · omega
                    · exact h
                  walk_at "sts"
                  refine x_lenStr (by rw [ls]; omega) ?_
                  rw [ls, l1]
                  walk_at "sts"
                  refine x_dec (fun c => absurd c (by omega)) (fun _ => ?_)
                  walk_at "sts"
                  refine x_ixStr hz' (atI_nat g) ?_
                  walk_at "sts"
                  refine x_eqZ ?_
                  rw [e45, decide_eq_false (fun z => cn ((one_eq _ _).mp z))]
                  walk_at "sts"
                  exact hN _ _ ⟨rfl, rfl⟩
                · walk_at "sts"
                  exact hN _ _ ⟨rfl, rfl⟩
              · rintro σ' H' ⟨rfl, rfl⟩
                walk_at "sts"
                refine x_bmL hl ?_
                walk_at "sts"
                refine x_slS hz' ?_
                rw [cut_tok h3 h4]
                walk_at "sts"
                refine x_mkt (m := 3) rfl (by decide) fun q hq => ?_
                walk_at "sts"
                refine x_app (upd_get hq hl) (szl (by omega)) ?_
                exact fin q _ _ _ hq
          · rw [c1]
            have edd : (".." : Str) = ⟨#[46, 46]⟩ := by decide +kernel
            have e46 : ("." : Str) = ⟨#[46]⟩ := by decide +kernel
            walk_at "sts"
            refine x_ixStr hz' (atI_nat g) ?_
            walk_at "sts"
            refine x_inS1 ?_
            rw [nm_in, c2]
            walk_at "sts"
            refine x_slS hz' ?_
            refine x_eqZ ?_
            rw [edd]
            rcases q with ⟨rfl, rfl⟩ | ⟨tl1, cc⟩
            · have l2 : ((".." : Str).length : Int) = 2 := by decide +kernel
              have ce : cutS z (some (a : Int)) (some ((a : Int) + 2)) = ".." := by
                rw [← cut_tok h3 h4, Int.natCast_add, l2]
              rw [ce, edd, decide_eq_true rfl]
              walk_at "sts"
              refine x_ixStr hz' (atI_nat g) ?_
              walk_at "sts"
              refine x_eqZ ?_
              rw [e46, decide_eq_true rfl]
              walk_at "sts"
              refine x_bmL hl ?_
              walk_at "sts"
              refine x_slS hz' ?_
              rw [ce]
              walk_at "sts"
              refine x_mkt (m := 3) rfl (by decide) fun q hq => ?_
              walk_at "sts"
              refine x_app (upd_get hq hl) (szl (by omega)) ?_
              rw [show (a : Int) + 2 = ((a + (".." : Str).length : Nat) : Int) by rw [Int.natCast_add, l2]]
              exact fin q _ _ _ hq
            · have c46 : ¬ c = 46 := by omega
              have cn : ¬ cutS z (some (a : Int)) (some ((a : Int) + 2)) = ⟨#[46, 46]⟩ := fun h => by
                have e := cut_tl z a (a + 2)
                rw [show ((a + 2 : Nat) : Int) = (a : Int) + 2 by omega, h, Nat.min_eq_left (by omega : a ≤ z.length)] at e
                have := tok_hd (e.symm : _ = [46, 46])
                rw [g] at this
                exact c46 (Option.some.inj this)
              rw [decide_eq_false cn]
              walk_at "sts"
              refine x_ixStr hz' (atI_nat g) ?_
              walk_at "sts"
              refine x_inS1 ?_
              rw [sg_in, decide_eq_true cc]
              walk_at "sts"
              refine x_ixStr hz' (atI_nat g) ?_
              walk_at "sts"
              refine x_eqZ ?_
              rw [e46, decide_eq_false fun z => c46 ((one_eq _ _).mp z)]
              walk_at "sts"
              refine x_bmL hl ?_
              walk_at "sts"
              refine x_slS hz' ?_
              rw [show (a : Int) + 1 = ((a + t.length : Nat) : Int) by rw [tl1]; rfl, cut_tok h3 h4]
              walk_at "sts"
              refine x_mkt (m := 3) rfl (by decide) fun q hq => ?_
              walk_at "sts"
              refine x_app (upd_get hq hl) (szl (by omega)) ?_
              exact fin q _ _ _ hq
      · rintro σ H' ⟨L, t1, t2, xs, b, x3, x4, x5, x6, rfl, s', hl, rl, te, rfl, tk, hb, ib, li⟩
        exfalso
        omega
    · rintro σ' H' ⟨L, xs, b, x3, x4, x5, x6, rfl, s', hl, rl, te, ll⟩
      have hxl : xs.length = L.length := by rw [rl.1, List.length_map]
      walk_at "sts"
      refine x_bmL hl ?_
      walk_at "sts"
      refine x_lenStr hz' ?_
      walk_at "sts"
      refine x_mkt (m := 3) rfl (by decide) fun q hq => ?_
      walk_at "sts"
      refine x_app (upd_get hq hl) (szl (by omega)) ?_
      walk_at "sts"
      refine k _ _ L (Same.own (Same.new s' hq) hp) te ?_
      exact (rps_lst (rps_tail (te_app (e := ⟨"end", "", z.length⟩) (Lv.same s') hl rl hq)) (Lv.new hp) upd_same)


/-! ### glued from the left -/
def OkS (m l : List Nat) : Prop := ∀ x, m.getLast? = some x → ∀ c cs, l = c :: cs → ¬ (inB 97 122 x = true ∧ inB 97 122 c = true) ∧ ¬ (inB 48 57 x = true ∧ inB 48 57 c = true)
def Glu (m : List Nat) (ts : List Str) : Prop := ∀ l ts', Gl l ts' → OkS m l → Gl (m ++ l) (ts ++ ts')
theorem glu_nil : Glu [] [] := fun l ts' h _ => h
theorem gl_rep {l : List Nat} {ts : List Str} (h : Gl l ts) : ∀ n, Gl (List.replicate n 32 ++ l) ts
  | 0 => h
  | n + 1 => by
    rw [List.replicate_succ]
    exact .sp (gl_rep h n)
theorem tk_at {t k : Str} {l : List Nat} (h : Tk t k) (o : OkS t.cps.toList l) : TokAt t l := by
  rcases h with ⟨hw, _⟩ | ⟨⟨i, hi, rfl⟩, _⟩ | ⟨hs, _⟩
  · refine tok_wd hw fun c cs e => ?_
    obtain ⟨x, hx⟩ : ∃ x, t.cps.toList.getLast? = some x := ⟨_, List.getLast?_eq_some_getLast hw.1⟩
    have ox := (o x hx c cs e).1
    have xm := hw.2 x (List.mem_of_getLast? hx)
    cases q : inB 97 122 c with
    | false => rfl
    | true => exact absurd ⟨xm, q⟩ ox
  · refine tok_num fun c cs e => ?_
    have ne : TL.numL i.natAbs ≠ [] := TL.numL_ne _
    obtain ⟨x, hx⟩ : ∃ x, (TL.numL i.natAbs).getLast? = some x := ⟨_, List.getLast?_eq_some_getLast ne⟩
    have hx2 : (tI i).cps.toList.getLast? = some x := by
      rw [tI_tl]
      split
      · rw [List.getLast?_cons, hx]
        rfl
      · exact hx
    have ox := (o x hx2 c cs e).2
    have xm := (dig_b (numL_dig (List.mem_of_getLast? hx))).1
    cases q : inB 48 57 c with
    | false => rfl
    | true => exact absurd ⟨xm, q⟩ ox
  · unfold sgs at hs
    simp only [List.mem_cons, List.not_mem_nil, or_false] at hs
    have edd : (".." : Str) = ⟨#[46, 46]⟩ := by decide +kernel
    have e1 : ("[" : Str) = ⟨#[91]⟩ := by decide +kernel
    have e2 : ("]" : Str) = ⟨#[93]⟩ := by decide +kernel
    have e3 : ("," : Str) = ⟨#[44]⟩ := by decide +kernel
    rcases hs with rfl | rfl | rfl | rfl
    · rw [edd]; exact tok_dd
    · rw [e1]; exact tok_one (by decide) (by decide) (by decide) (by decide) (by decide)
    · rw [e2]; exact tok_one (by decide) (by decide) (by decide) (by decide) (by decide)
    · rw [e3]; exact tok_one (by decide) (by decide) (by decide) (by decide) (by decide)
theorem tk_ne {t k : Str} (h : Tk t k) : ∃ c cs, t.cps.toList = c :: cs := by
  rcases h with ⟨hw, _⟩ | ⟨⟨i, hi, rfl⟩, _⟩ | ⟨hs, _⟩
  · match e : t.cps.toList, hw.1 with
    | c :: cs, _ => exact ⟨c, cs, rfl⟩
  · obtain ⟨c, cs, e, _⟩ := num_hd hi
    exact ⟨c, cs, e⟩
  · unfold sgs at hs
    simp only [List.mem_cons, List.not_mem_nil, or_false] at hs
    rcases hs with rfl | rfl | rfl | rfl
    · exact ⟨46, [46], by decide +kernel⟩
    · exact ⟨91, [], by decide +kernel⟩
    · exact ⟨93, [], by decide +kernel⟩
    · exact ⟨44, [], by decide +kernel⟩
theorem last_app {a b : List Nat} (h : b ≠ []) : (a ++ b).getLast? = b.getLast? := by
  rw [List.getLast?_append]
  obtain ⟨x, hx⟩ : ∃ x, b.getLast? = some x := ⟨_, List.getLast?_eq_some_getLast h⟩
  rw [hx]
  rfl
theorem sp_no (x : Nat) : ¬ (inB 97 122 x = true ∧ inB 97 122 32 = true) ∧ ¬ (inB 48 57 x = true ∧ inB 48 57 32 = true) := ⟨fun z => absurd z.2 (by decide), fun z => absurd z.2 (by decide)⟩
theorem glu_snoc {m : List Nat} {ts : List Str} {t k : Str} {g : Nat} (h : Glu m ts) (hk : Tk t k) (o : OkS m (List.replicate g 32 ++ t.cps.toList)) : Glu (m ++ (List.replicate g 32 ++ t.cps.toList)) (ts ++ [t]) := fun l ts' hl ol => by
  obtain ⟨c, cs, e⟩ := tk_ne hk
  have ne : t.cps.toList ≠ [] := by rw [e]; exact List.cons_ne_nil _ _
  have ot : OkS t.cps.toList l := fun x hx => ol x (by rw [last_app (by simp [ne]), last_app ne]; exact hx)
  rw [List.append_assoc, List.append_assoc, List.append_assoc]
  refine h _ _ (gl_rep (.tok (tk_at hk ot) hl) g) fun x hx c' cs' e' => ?_
  cases g with
  | zero =>
    have e2 : t.cps.toList ++ l = c' :: cs' := e'
    rw [e] at e2
    obtain ⟨rfl, _⟩ := List.cons.inj e2
    exact o x hx c cs (by rw [e]; rfl)
  | succ g =>
    rw [List.replicate_succ] at e'
    obtain ⟨rfl, _⟩ := List.cons.inj e'
    exact sp_no x
theorem glu_end {m : List Nat} {ts : List Str} (h : Glu m ts) (g : Nat) : Gl (m ++ List.replicate g 32) ts := by
  have := h (List.replicate g 32) [] (by have := gl_rep .nil g; rw [List.append_nil] at this; exact this) fun x hx c cs e => by
    have : c ∈ List.replicate g 32 := by rw [e]; simp
    rw [List.eq_of_mem_replicate this]
    exact sp_no x
  rw [List.append_nil] at this
  exact this


def lenS (ts : List Str) : Nat := (ts.map Str.length).sum
def sp__law_spaced : Sp := fun vs H Q _ => ∃ (row sp : Addr) (z : Str) (ts : List Str), vs = [.ref row, .ref sp, .str z] ∧ Wd H row sp ∧ z.length ≤ 99000 ∧ Toks z (runE 32 32 z.cps.toList 0) ts ∧ (∀ t, t ∈ ts → ∃ k, Tk t k) ∧ lenS ts + 2 * (ts.length + 1) ≤ 100000 ∧ ∀ H' u, Kp [sp] H H' → Wd H' row sp → u.length ≤ lenS ts + 2 * (ts.length + 1) → Gl u.cps.toList ts → Q (.str u) H'
theorem lenS_take {ts : List Str} {t : Str} {i : Nat} (h : ts[i]? = some t) : lenS (ts.take (i + 1)) = lenS (ts.take i) + t.length := by
  unfold lenS
  rw [List.take_add_one, h, List.map_append, List.sum_append]
  simp
theorem lenS_le (ts : List Str) (i : Nat) : lenS (ts.take i) ≤ lenS ts := by
  have e : lenS ts = lenS (ts.take i) + lenS (ts.drop i) := by
    unfold lenS
    rw [← List.sum_append, ← List.map_append, List.take_append_drop]
  omega
/-- what the last sign is asked -/
theorem last_ix {m : Str} {x : Nat} (h : m.cps.toList.getLast? = some x) : atI m.cps.toList ((m.length : Int) - 1) = some x := by
  have hl := z_len m
  rw [List.getLast?_eq_getElem?] at h
  have lp : 0 < m.cps.toList.length := by
    have := (List.getElem?_eq_some_iff.mp h).1
    omega
  rw [show (m.length : Int) - 1 = ((m.cps.toList.length - 1 : Nat) : Int) by omega]
  exact atI_nat h
theorem oks_of {m l : List Nat} {c : Nat} {cs : List Nat} (e : l = c :: cs) (h : ∀ x, m.getLast? = some x → ¬ (inB 97 122 x = true ∧ inB 97 122 c = true) ∧ ¬ (inB 48 57 x = true ∧ inB 48 57 c = true)) : OkS m l := fun x hx c' cs' e' => by
  rw [e] at e'
  obtain ⟨rfl, _⟩ := List.cons.inj e'
  exact h x hx
theorem te_at {L : List Te} {ts : List Str} {e : Te} {i : Nat} (h : Tes L ts) (g : L[i]? = some e) : ts[i]? = some e.t ∧ Tk e.t e.k := ⟨by rw [← h.1, List.getElem?_map, g]; rfl, h.2 e (List.mem_of_getElem? g)⟩
/-- the first sign of a token tells its kind -/
theorem tk_az {t k : Str} {c : Nat} {cs : List Nat} (h : Tk t k) (e : t.cps.toList = c :: cs) (hc : inB 97 122 c = true) : k = "word" := by
  rcases h with ⟨_, rfl⟩ | ⟨⟨i, hi, rfl⟩, rfl⟩ | ⟨hs, rfl⟩
  · rfl
  · exfalso
    obtain ⟨c', cs', e', q⟩ := num_hd hi
    rw [e] at e'
    obtain ⟨rfl, _⟩ := List.cons.inj e'
    rcases q with ⟨rfl, _⟩ | ⟨_, _, _, en⟩
    · revert hc; decide
    · rw [(dig_b (numL_dig (n := i.natAbs) (c := c) (by rw [← en]; simp))).2] at hc
      cases hc
  · exfalso
    have e1 : (".." : Str).cps.toList = [46, 46] := by decide +kernel
    have e2 : ("[" : Str).cps.toList = [91] := by decide +kernel
    have e3 : ("]" : Str).cps.toList = [93] := by decide +kernel
    have e4 : ("," : Str).cps.toList = [44] := by decide +kernel
    unfold sgs at hs
    simp only [List.mem_cons, List.not_mem_nil, or_false] at hs
    rcases hs with rfl | rfl | rfl | rfl
    · rw [e1] at e; obtain ⟨rfl, _⟩ := List.cons.inj e; revert hc; decide
    · rw [e2] at e; obtain ⟨rfl, _⟩ := List.cons.inj e; revert hc; decide
    · rw [e3] at e; obtain ⟨rfl, _⟩ := List.cons.inj e; revert hc; decide
    · rw [e4] at e; obtain ⟨rfl, _⟩ := List.cons.inj e; revert hc; decide


theorem cut_one (t : Str) : (cutS t none (some 1)).cps.toList = t.cps.toList.take 1 := by
  unfold cutS
  rw [HT.sIx_none, show (1 : Int) = ((1 : Nat) : Int) from rfl, HT.sIx_nat]
  show (t.cps.toList.drop 0).take (min 1 t.length - 0) = _
  rw [List.drop_zero, Nat.sub_zero, ← z_len]
  by_cases q : 1 ≤ t.cps.toList.length
  · rw [Nat.min_eq_left q]
  · rw [Nat.min_eq_right (by omega), List.take_of_length_le (Nat.le_refl _), List.take_of_length_le (by omega)]
theorem cut_hd {t : Str} {d : Nat} {ds : List Nat} (e : t.cps.toList = d :: ds) : cutS t none (some 1) = ⟨#[d]⟩ := s_ext (by rw [cut_one, e]; rfl)
theorem cut_em {t : Str} (e : t.cps.toList = []) : cutS t none (some 1) = Str.empty := s_ext (by rw [cut_one, e]; rfl)
set_option maxHeartbeats 1000000 in
theorem ok__law_spaced {f : Addr} {fd : FuncData} (F : Fun K "_law_spaced" "_law_spaced" s__law_spaced f fd) (T : Txt K mg w D_READERS D_WORDS V_read_box V_read_condition V_read_conditional V_read_drop V_read_during V_read_first V_read_list V_read_nearest V_read_nothing V_read_number V_read_pair V_read_put V_read_skyline V_read_turn C_Reader tk_ALL tk_MOST_DIGITS) (O__law_take : Ok P w K mg base 2 "_law_take" ["row", "spot", "limit"] (sp__law_take)) (O__law_tokens : Ok P w K mg base 2 "_law_tokens" ["text"] (sp__law_tokens)) : FnOk P w K mg base CX0 3 f fd ["row", "spot", "text"] sp__law_spaced := by
  refine F.ok sc__law_spaced (fun vs H Q E h => ?_) (fun cdv A outer s H vs Q E hr h => ?_)
  · obtain ⟨row, sp, z, ts, rfl, _⟩ := h
    rfl
  · obtain ⟨row, sp, z, ts, rfl, W, hz, ht, hk, hle, k⟩ := h
    refine ⟨_, d__law_spaced hr T O__law_take O__law_tokens, ?_⟩
    unfold t__law_spaced
    refine x_start (σ' := [some (.ref row), some (.ref sp), some (.str z), none, none, none]) rfl ?_
    walk_at "sts"
    refine x_ltokens W.live hz ht hk fun v H1 L s1 te rl => ?_
    have W1 := W.same s1
    have el := tes_len te
    walk_at "sts"
    refine x_loopS (H0 := H1) rl (.inr rfl) (fun i σ H' => ∃ (m : Str) (x4 x5 : Option V), σ = [some (.ref row), some (.ref sp), some (.str z), some (.str m), x4, x5] ∧ Kp [sp] H1 H' ∧ Wd H' row sp ∧ m.length ≤ lenS (ts.take i) + 2 * i ∧ (i ≤ L.length → Glu m.cps.toList (ts.take i)) ∧ (i = L.length + 1 → Gl m.cps.toList ts)) ?_ ?_ ?_ ?_
    · exact ⟨"", _, _, rfl, Kp.refl, W1, Nat.le_trans (by decide +kernel : ("" : Str).length ≤ 0) (Nat.zero_le _), fun _ => by
        have e : ("" : Str).cps.toList = [] := by decide +kernel
        rw [e]
        exact glu_nil, fun q => by omega⟩
    · rintro i σ H' ⟨m, x4, x5, rfl, kp, _⟩
      exact kp
    · rintro i x e σ H' ge ⟨m, x4, x5, rfl, kp, W', lm, glu, _⟩ rx rx0
      obtain ⟨kk, tt, aa, rfl, tc⟩ : ∃ (kk tt : Str) (aa : Int), e = .tup [.str kk, .str tt, .int aa] ∧ ((i < L.length ∧ ts[i]? = some tt ∧ Tk tt kk) ∨ (i = L.length ∧ tt = "" ∧ kk = "end")) := by
        by_cases h : i < L.length
        · rw [List.getElem?_append_left (by rw [List.length_map]; exact h), List.getElem?_map, List.getElem?_eq_getElem h] at ge
          cases ge
          exact ⟨_, _, _, rfl, .inl ⟨h, te_at te (List.getElem?_eq_getElem h)⟩⟩
        · rw [List.getElem?_append_right (by rw [List.length_map]; omega), List.length_map] at ge
          have q := (List.getElem?_eq_some_iff.mp ge).1
          rw [List.length_singleton] at q
          have q0 : i - L.length = 0 := by omega
          rw [q0] at ge
          cases ge
          exact ⟨_, _, _, rfl, .inr ⟨by omega, rfl, rfl⟩⟩
      have lt := lenS_le ts i
      have hi : i ≤ L.length := by rcases tc with ⟨h, _⟩ | ⟨h, _⟩ <;> omega
      have g1 := glu hi
      have lm' : m.length ≤ 100000 := by omega
      walk_at "sts"
      refine x_take W' (by decide) fun g0 H2 a0 b0 k0 W2 => ?_
      obtain ⟨g, rfl⟩ : ∃ g : Nat, g0 = (g : Int) := ⟨g0.toNat, by omega⟩
      have rx2 := rx.kp k0
      walk_at "sts"
      refine x_cut (fun σ' H'' => ∃ g : Nat, σ' = [some (.ref row), some (.ref sp), some (.str z), some (.str m), some x, some (.int (g : Int))] ∧ H'' = H2 ∧ g ≤ 2 ∧ (g = 0 → ∀ c, m.cps.toList.getLast? = some c → kk = "word" → inB 97 122 c = false)) ?_ ?_
      · have no : m.length = 0 → ∀ c, m.cps.toList.getLast? = some c → False := fun q c hc => by
          rw [← z_len] at q
          rw [List.eq_nil_of_length_eq_zero q] at hc
          cases hc
        walk_at "sts"
        refine x_lenStr lm' ?_
        walk_at "sts"
        refine x_dec (fun c1 => ?_) (fun c1 => ?_)
        · walk_at "sts"
          refine x_dec (fun c2 => ?_) (fun c2 => ?_)
          · walk_at "sts"
            refine x_ixR (i := 0) (d' := .str kk) rx2 (.inl rfl) rfl rfl fun y1 r1 => ?_
            cases r1.strI
            walk_at "sts"
            refine x_eqZ ?_
            walk_at "sts"
            refine x_dec (fun c3 => ?_) (fun c3 => ?_)
            · obtain ⟨x0, hx0⟩ : ∃ x0, m.cps.toList.getLast? = some x0 := ⟨_, List.getLast?_eq_some_getLast (fun q => by
                have := z_len m
                rw [q, List.length_nil] at this
                omega)⟩
              walk_at "sts"
              refine x_lenStr lm' ?_
              walk_at "sts"
              refine x_ixStr lm' (last_ix hx0) ?_
              walk_at "sts"
              refine x_inS1 ?_
              rw [show decide (x0 ∈ ("abcdefghijklmnopqrstuvwxyz" : Str).cps.toList) = inB 97 122 x0 from az_in x0]
              cases q : inB 97 122 x0 with
              | true =>
                walk_at "sts"
                exact ⟨1, rfl, rfl, by omega, fun z => by omega⟩
              | false =>
                walk_at "sts"
                exact ⟨g, rfl, rfl, by omega, fun _ c hc _ => by rw [hx0] at hc; cases hc; exact q⟩
            · walk_at "sts"
              exact ⟨g, rfl, rfl, by omega, fun _ c hc h => absurd h c3⟩
          · walk_at "sts"
            exact ⟨g, rfl, rfl, by omega, fun z => by omega⟩
        · walk_at "sts"
          exact ⟨g, rfl, rfl, by omega, fun _ c hc => (no (by omega) c hc).elim⟩
      · rintro σ' H'' ⟨g', rfl, rfl, hg, o1⟩
        walk_at "sts"
        refine x_cut (fun σ' H3 => ∃ g : Nat, σ' = [some (.ref row), some (.ref sp), some (.str z), some (.str m), some x, some (.int (g : Int))] ∧ H3 = H'' ∧ g ≤ 2 ∧ (g = 0 → ∀ c, m.cps.toList.getLast? = some c → (kk = "word" → inB 97 122 c = false) ∧ ∀ d ds, tt.cps.toList = d :: ds → inB 48 57 d = true → inB 48 57 c = false)) ?_ ?_
        · have no : m.length = 0 → ∀ c, m.cps.toList.getLast? = some c → False := fun q c hc => by
            rw [← z_len] at q
            rw [List.eq_nil_of_length_eq_zero q] at hc
            cases hc
          have ltt : tt.length ≤ 100000 := by
            rcases tc with ⟨_, h, _⟩ | ⟨_, rfl, _⟩
            · have a1 := lenS_take h
              have a2 := lenS_le ts (i + 1)
              omega
            · exact Nat.le_trans (by decide +kernel : ("" : Str).length ≤ 0) (Nat.zero_le _)
          walk_at "sts"
          refine x_lenStr lm' ?_
          walk_at "sts"
          refine x_dec (fun c1 => ?_) (fun c1 => ?_)
          · obtain ⟨x0, hx0⟩ : ∃ x0, m.cps.toList.getLast? = some x0 := ⟨_, List.getLast?_eq_some_getLast (fun q => by
              have := z_len m
              rw [q, List.length_nil] at this
              omega)⟩
            walk_at "sts"
            refine x_dec (fun c2 => ?_) (fun c2 => ?_)
            · walk_at "sts"
              refine x_ixR (i := 1) (d' := .str tt) rx2 (.inl rfl) rfl rfl fun y1 r1 => ?_
              cases r1.strI
              walk_at "sts"
              refine x_slS ltt ?_
              walk_at "sts"
              match et : tt.cps.toList with
              | [] =>
                rw [cut_em et]
                refine x_inS0 ?_
                walk_at "sts"
                refine x_lenStr lm' ?_
                walk_at "sts"
                refine x_ixStr lm' (last_ix hx0) ?_
                walk_at "sts"
                refine x_inS1 ?_
                walk_at "sts"
                refine x_dec (fun _ => ?_) (fun _ => ?_)
                · walk_at "sts"
                  exact ⟨1, rfl, rfl, by omega, fun z => by omega⟩
                · walk_at "sts"
                  exact ⟨g', rfl, rfl, by omega, fun z c hc => ⟨o1 z c hc, fun d ds e => nomatch e⟩⟩
              | d :: ds =>
                rw [cut_hd et]
                refine x_inS1 ?_
                rw [nm_in]
                cases q : (decide (d = 45) || inB 48 57 d) with
                | true =>
                  walk_at "sts"
                  refine x_lenStr lm' ?_
                  walk_at "sts"
                  refine x_ixStr lm' (last_ix hx0) ?_
                  walk_at "sts"
                  refine x_inS1 ?_
                  rw [nm_in]
                  cases q2 : (decide (x0 = 45) || inB 48 57 x0) with
                  | true =>
                    walk_at "sts"
                    exact ⟨1, rfl, rfl, by omega, fun z => by omega⟩
                  | false =>
                    walk_at "sts"
                    exact ⟨g', rfl, rfl, by omega, fun z c hc => ⟨o1 z c hc, fun _ _ _ _ => by rw [hx0] at hc; cases hc; exact (Bool.or_eq_false_iff.mp q2).2⟩⟩
                | false =>
                  walk_at "sts"
                  exact ⟨g', rfl, rfl, by omega, fun z c hc => ⟨o1 z c hc, fun d' ds' e' hd => by
                    obtain ⟨rfl, _⟩ := List.cons.inj e'
                    rw [(Bool.or_eq_false_iff.mp q).2] at hd
                    cases hd⟩⟩
            · walk_at "sts"
              exact ⟨g', rfl, rfl, by omega, fun z => by omega⟩
          · walk_at "sts"
            exact ⟨g', rfl, rfl, by omega, fun _ c hc => (no (by omega) c hc).elim⟩
        · rintro σ' H3 ⟨g2, rfl, rfl, hg2, o2⟩
          have e32 : (" " : Str).length = 1 := by decide +kernel
          walk_at "sts"
          refine x_mulS0 (n := g2) rfl (by omega) (by rw [e32]; omega) (by rw [e32]; omega) ?_
          have lr : (repS " " g2).length = g2 := by rw [repS_len, e32, Nat.mul_one]
          have tr := repS_sp g2
          have ltt : tt.length ≤ 100000 := by
            rcases tc with ⟨_, h, _⟩ | ⟨_, rfl, _⟩
            · have a1 := lenS_take h
              have a2 := lenS_le ts (i + 1)
              omega
            · exact Nat.le_trans (by decide +kernel : ("" : Str).length ≤ 0) (Nat.zero_le _)
          refine x_addStr (Nat.le_trans (show _ ≤ 1000000 by rw [lr]; omega) (by decide)) ?_
          walk_at "sts"
          refine x_ixR (i := 1) (d' := .str tt) rx2 (.inl rfl) rfl rfl fun y1 r1 => ?_
          cases r1.strI
          refine x_addStr (Nat.le_trans (show _ ≤ 1000000 by rw [len_addS, lr]; omega) (by decide)) ?_
          walk_at "sts"
          have tl3 : ((m ++ repS " " g2) ++ tt).cps.toList = m.cps.toList ++ (List.replicate g2 32 ++ tt.cps.toList) := by rw [tl_app, tl_app, tr, List.append_assoc]
          refine ⟨(m ++ repS " " g2) ++ tt, _, _, rfl, kp.trans k0, W2, ?_, fun q => ?_, fun q => ?_⟩
          · rw [len_addS, len_addS, lr]
            rcases tc with ⟨_, h, _⟩ | ⟨h, rfl, _⟩
            · rw [lenS_take h]
              omega
            · have e0 : ("" : Str).length = 0 := by decide +kernel
              have t1 : ts.take (i + 1) = ts.take i := by rw [List.take_of_length_le (by omega), List.take_of_length_le (by omega)]
              rw [t1, e0]
              omega
          · rcases tc with ⟨_, h, hkk⟩ | ⟨h, _⟩
            · obtain ⟨d, ds, et⟩ := tk_ne hkk
              have t1 : ts.take (i + 1) = ts.take i ++ [tt] := by rw [List.take_add_one, h]; rfl
              rw [tl3, t1]
              refine glu_snoc g1 hkk ?_
              match g2, o2 with
              | 0, o2 =>
                refine oks_of (c := d) (cs := ds) (by rw [et]; rfl) fun c hc => ⟨fun z => ?_, fun z => ?_⟩
                · rw [(o2 rfl c hc).1 (tk_az hkk et z.2)] at z
                  exact nomatch z.1
                · rw [(o2 rfl c hc).2 d ds et z.2] at z
                  exact nomatch z.1
              | g2 + 1, _ => exact oks_of (c := 32) (by rw [List.replicate_succ]; rfl) fun c _ => sp_no c
            · omega
          · rcases tc with ⟨h, _⟩ | ⟨h, rfl, _⟩
            · omega
            · have e0 : ("" : Str).cps.toList = [] := by decide +kernel
              have t1 : ts.take i = ts := List.take_of_length_le (by omega)
              rw [tl3, e0, List.append_nil]
              rw [t1] at g1
              exact glu_end g1 g2
    · rintro σ H' ⟨m, x4, x5, rfl, kp, W', lm, _, gl⟩
      walk_at "sts"
      refine k _ m ((Same.kp s1).trans kp) W' ?_ (gl (by simp))
      have := lenS_le ts ((L.map Te.da ++ [endD z]).length)
      simp only [List.length_append, List.length_map, List.length_cons, List.length_nil] at lm this
      omega


/-! ### the law's reader -/
theorem tk_un {t k k' : Str} (h : Tk t k) (h' : Tk t k') : k = k' := by
  obtain ⟨c, cs, e⟩ := tk_ne h
  have az : ∀ {k}, Tk t k → k = "word" ∨ inB 97 122 c = false := fun {k} h => by
    cases q : inB 97 122 c with
    | true => exact .inl (tk_az h e q)
    | false => exact .inr rfl
  have one : ∀ {k}, Tk t k → (k = "word" ∧ inB 97 122 c = true) ∨ (k = "number" ∧ (decide (c = 45) || inB 48 57 c) = true) ∨ (k = "sign" ∧ inB 97 122 c = false ∧ (decide (c = 45) || inB 48 57 c) = false) := fun {k} h => by
    obtain ⟨c', cs', e', g, f⟩ := tok_f (z := t) (a := 0) (t := t) (k := k) (by
      have := tk_at (l := []) h (fun _ _ _ _ z => nomatch z)
      have := this.2
      rw [List.append_nil] at this
      rw [this, Nat.zero_add]) (by rw [List.drop_zero, List.take_of_length_le (by rw [z_len]; exact Nat.le_refl _)]) h
    rw [e] at e'
    obtain ⟨rfl, _⟩ := List.cons.inj e'
    rcases f with ⟨f1, f2, _⟩ | ⟨f1, f2, f3, _⟩ | ⟨f1, f2, f3, _⟩
    · exact .inl ⟨f1, f2⟩
    · exact .inr (.inl ⟨f1, f3⟩)
    · exact .inr (.inr ⟨f1, f2, f3⟩)
  have wd_no : inB 97 122 c = true → (decide (c = 45) || inB 48 57 c) = true → False := fun h1 h2 => by
    unfold inB at h1 h2
    rw [Bool.and_eq_true] at h1
    have a1 := of_decide_eq_true h1.1
    rw [decide_eq_false (by omega), decide_eq_false (by omega : ¬ c ≤ 57), Bool.and_false] at h2
    cases h2
  rcases one h with ⟨a, b⟩ | ⟨a, b⟩ | ⟨a, b, d⟩ <;> rcases one h' with ⟨a', b'⟩ | ⟨a', b'⟩ | ⟨a', b', d'⟩
  · rw [a, a']
  · exact (wd_no b b').elim
  · rw [b] at b'; cases b'
  · exact (wd_no b' b).elim
  · rw [a, a']
  · rw [b] at d'; cases d'
  · rw [b'] at b; cases b
  · rw [b'] at d; cases d
  · rw [a, a']
def Lr (ex : List Addr) (H : Hp) (p : Addr) (ts : List Str) : Prop := ∃ (z : Str) (vt : V) (L : List Te) (j : Nat), H p = some (.lst [vt, .int (j : Int), .non]) ∧ Rp (p :: ex) H vt (.lst (L.map Te.da ++ [endD z])) ∧ j ≤ L.length ∧ (L.drop j).map Te.t = ts ∧ (∀ e, e ∈ L → Tk e.t e.k) ∧ L.length ≤ 90000
def sp__law_expect : Sp := fun vs H Q _ => (∃ (ex : List Addr) (p : Addr) (t k : Str) (ts : List Str) (wv : V), vs = [.ref p, .str k, wv] ∧ Lr ex H p (t :: ts) ∧ Tk t k ∧ (wv = .non ∨ wv = .str t) ∧ ∀ H', Kp [p] H H' → Lr ex H' p ts → Q (.str t) H') ∨ ∃ (ex : List Addr) (p : Addr), vs = [.ref p, .str "end", .non] ∧ Lr ex H p [] ∧ Q (.str "") H
theorem ok__law_expect {f : Addr} {fd : FuncData} (F : Fun K "_law_expect" "_law_expect" s__law_expect f fd) (T : Txt K mg w D_READERS D_WORDS V_read_box V_read_condition V_read_conditional V_read_drop V_read_during V_read_first V_read_list V_read_nearest V_read_nothing V_read_number V_read_pair V_read_put V_read_skyline V_read_turn C_Reader tk_ALL tk_MOST_DIGITS)  : FnOk P w K mg base CX0 1 f fd ["state", "kind", "word"] sp__law_expect := by
  refine F.ok sc__law_expect (fun vs H Q E h => ?_) (fun cdv A outer s H vs Q E hr h => ?_)
  · rcases h with ⟨ex, p, t, k, ts, wv, rfl, _⟩ | ⟨ex, p, rfl, _⟩
    · rfl
    · rfl
  · rcases h with ⟨ex, p, t, k, ts, wv, rfl, ⟨z, vt, L, j, hp, rt, jl, et, hk, ll⟩, tk, hw, q⟩ | ⟨ex, p, rfl, ⟨z, vt, L, j, hp, rt, jl, et, hk, ll⟩, q⟩
    case inr =>
      refine ⟨_, d__law_expect hr T , ?_⟩
      unfold t__law_expect
      refine x_start (σ' := [some (.ref p), some (.str "end"), some .non, none]) rfl ?_
      have jl2 : j = L.length := by
        have := congrArg List.length et
        rw [List.length_map, List.length_drop, List.length_nil] at this
        omega
      have ge : (L.map Te.da ++ [endD z])[j]? = some (endD z) := by
        rw [List.getElem?_append_right (by rw [List.length_map]; omega), List.length_map, show j - L.length = 0 by omega]
        rfl
      walk_at "sts"
      refine x_ixL hp (v := vt) rfl ?_
      walk_at "sts"
      refine x_ixL hp (v := .int (j : Int)) rfl ?_
      walk_at "sts"
      refine x_ixR (i := j) rt (.inr rfl) ge rfl fun tv rtv => ?_
      walk_at "sts"
      refine x_ixL hp (v := .non) rfl ?_
      walk_at "sts"
      rw [decide_eq_true rfl]
      walk_at "sts"
      refine x_ixR (i := 0) (d' := .str "end") rtv (.inl rfl) rfl rfl fun y1 r1 => ?_
      cases r1.strI
      walk_at "sts"
      refine x_neS ?_
      rw [decide_eq_true rfl]
      walk_at "sts"
      rw [decide_eq_true rfl]
      walk_at "sts"
      refine x_cut (fun σ' H' => σ' = [some (.ref p), some (.str "end"), some .non, some tv] ∧ H' = H) ?_ ?_
      · walk_at "sts"
        refine x_neS ?_
        rw [decide_eq_true rfl]
        walk_at "sts"
        exact ⟨rfl, rfl⟩
      · rintro σ' H' ⟨rfl, rfl⟩
        walk_at "sts"
        refine x_ixR (i := 1) (d' := .str "") rtv (.inl rfl) rfl rfl fun y2 r2 => ?_
        cases r2.strI
        exact q
    refine ⟨_, d__law_expect hr T , ?_⟩
    unfold t__law_expect
    refine x_start (σ' := [some (.ref p), some (.str k), some wv, none]) rfl ?_
    walk_at "sts"
    refine x_ixL hp (v := vt) rfl ?_
    walk_at "sts"
    refine x_ixL hp (v := .int (j : Int)) rfl ?_
    have jl2 : j < L.length := by
      have := congrArg List.length et
      rw [List.length_map, List.length_drop, List.length_cons] at this
      omega
    have ge : (L.map Te.da ++ [endD z])[j]? = some (L[j]).da := by
      rw [List.getElem?_append_left (by rw [List.length_map]; exact jl2), List.getElem?_map, List.getElem?_eq_getElem jl2]
      rfl
    have eq : L.drop j = L[j] :: L.drop (j + 1) := List.drop_eq_getElem_cons jl2
    rw [eq, List.map_cons] at et
    obtain ⟨e1, e2⟩ := List.cons.inj et
    have ek : (L[j]).k = k := tk_un (by rw [← e1] at tk; exact hk _ (List.getElem_mem jl2)) (by rw [e1]; exact tk)
    generalize L[j] = e at ge e1 ek
    obtain ⟨ekk, ett, ea⟩ := e
    dsimp only at e1 ek
    subst e1
    subst ek
    walk_at "sts"
    refine x_ixR (i := j) rt (.inr rfl) ge rfl fun tv rtv => ?_
    walk_at "sts"
    refine x_ixL hp (v := .non) rfl ?_
    walk_at "sts"
    rw [decide_eq_true rfl]
    walk_at "sts"
    refine x_ixR (i := 0) (d' := .str ekk) rtv (.inl rfl) rfl rfl fun y1 r1 => ?_
    cases r1.strI
    walk_at "sts"
    refine x_neS ?_
    rw [decide_eq_true rfl]
    have ne : ekk ≠ "end" := by
      rcases tk with ⟨_, h⟩ | ⟨_, h⟩ | ⟨_, h⟩ <;> (rw [h]; decide +kernel)
    have rest : ∀ (n b c : L2.St → Hp → Prop) (tt : TS), tt = (tCut (tIfS (tTest (tOp (rNeX K) (tVar 1) (tC (.str "end")))) (tAsg (tOp (rAddX K) (tOp (rIxX K) (tVar 0) (tC (.int 1))) (tC (.int 1))) (gSub (tVar 0) (tC (.int 1)) rSetL)) tNext) (tRet (tOp (rIxX K) (tVar 3) (tC (.int 1))))) → tt ⟨n, Q, b, c⟩ [some (.ref p), some (.str ekk), some wv, some tv] H := by
      rintro n b c tt rfl
      refine x_cut (fun σ' H' => σ' = [some (.ref p), some (.str ekk), some wv, some tv] ∧ H' = upd H p (.lst [vt, .int ((j + 1 : Nat) : Int), .non])) ?_ ?_
      · walk_at "sts"
        refine x_neS ?_
        rw [decide_eq_false ne]
        walk_at "sts"
        refine x_ixL hp (v := .int (j : Int)) rfl ?_
        walk_at "sts"
        refine x_setL (m := 1) hp rfl ?_
        exact ⟨rfl, rfl⟩
      · rintro σ' H' ⟨rfl, rfl⟩
        have kp : Kp [p] H (upd H p (.lst [vt, .int ((j + 1 : Nat) : Int), .non])) := Kp.refl.mut (List.mem_singleton.mpr rfl)
        have kpx : Kp (p :: ex) H (upd H p (.lst [vt, .int ((j + 1 : Nat) : Int), .non])) := Kp.refl.mut List.mem_cons_self
        walk_at "sts"
        refine x_ixR (i := 1) (d' := .str ett) (rtv.kp kpx) (.inl rfl) rfl rfl fun y1 r1 => ?_
        cases r1.strI
        exact q _ kp ⟨z, vt, L, j + 1, upd_same, rt.kp kpx, jl2, e2, hk, ll⟩
    rcases hw with rfl | rfl
    · walk_at "sts"
      rw [decide_eq_true rfl]
      walk_at "sts"
      exact rest _ _ _ _ rfl
    · walk_at "sts"
      rw [decide_eq_false (fun z => nomatch z)]
      walk_at "sts"
      refine x_ixR (i := 1) (d' := .str ett) rtv (.inl rfl) rfl rfl fun y1 r1 => ?_
      cases r1.strI
      walk_at "sts"
      refine x_neS ?_
      rw [decide_eq_true rfl]
      walk_at "sts"
      exact rest _ _ _ _ rfl


def sp__law_is_next : Sp := fun vs H Q _ => ∃ (ex : List Addr) (p : Addr) (wd : Str) (ts : List Str), vs = [.ref p, .str wd] ∧ Lr ex H p ts ∧ wd ≠ "" ∧ Q (.bl (decide (ts.headD "" = wd))) H
theorem ok__law_is_next {f : Addr} {fd : FuncData} (F : Fun K "_law_is_next" "_law_is_next" s__law_is_next f fd) (T : Txt K mg w D_READERS D_WORDS V_read_box V_read_condition V_read_conditional V_read_drop V_read_during V_read_first V_read_list V_read_nearest V_read_nothing V_read_number V_read_pair V_read_put V_read_skyline V_read_turn C_Reader tk_ALL tk_MOST_DIGITS)  : FnOk P w K mg base CX0 1 f fd ["state", "word"] sp__law_is_next := by
  refine F.ok sc__law_is_next (fun vs H Q E h => ?_) (fun cdv A outer s H vs Q E hr h => ?_)
  · obtain ⟨ex, p, wd, ts, rfl, _⟩ := h
    rfl
  · obtain ⟨ex, p, wd, ts, rfl, ⟨z, vt, L, j, hp, rt, jl, et, hk, ll⟩, nw, q⟩ := h
    obtain ⟨kk, tt, aa, ge, e1, nb⟩ : ∃ (kk tt : Str) (aa : Int), (L.map Te.da ++ [endD z])[j]? = some (.tup [.str kk, .str tt, .int aa]) ∧ ts.headD "" = tt ∧ kk ≠ "bad" := by
      by_cases h : j < L.length
      · refine ⟨(L[j]).k, (L[j]).t, ((L[j]).a : Int), ?_, ?_, ?_⟩
        · rw [List.getElem?_append_left (by rw [List.length_map]; exact h), List.getElem?_map, List.getElem?_eq_getElem h]
          rfl
        · rw [← et, List.drop_eq_getElem_cons h]
          rfl
        · rcases hk _ (List.getElem_mem h) with ⟨_, h⟩ | ⟨_, h⟩ | ⟨_, h⟩ <;> (rw [h]; decide +kernel)
      · have : j = L.length := by omega
        subst this
        refine ⟨"end", "", (z.length : Int), ?_, ?_, by decide +kernel⟩
        · rw [List.getElem?_append_right (by rw [List.length_map]; exact Nat.le_refl _), List.length_map, Nat.sub_self]
          rfl
        · rw [← et, List.drop_length]
          rfl
    refine ⟨_, d__law_is_next hr T , ?_⟩
    unfold t__law_is_next
    refine x_start (σ' := [some (.ref p), some (.str wd)]) rfl ?_
    walk_at "sts"
    refine x_ixL hp (v := .non) rfl ?_
    walk_at "sts"
    rw [decide_eq_true rfl]
    walk_at "sts"
    refine x_ixL hp (v := vt) rfl ?_
    walk_at "sts"
    refine x_ixL hp (v := .int (j : Int)) rfl ?_
    walk_at "sts"
    refine x_ixR (i := j) rt (.inr rfl) ge rfl fun tv rtv => ?_
    walk_at "sts"
    refine x_ixR (i := 1) (d' := .str tt) rtv (.inl rfl) rfl rfl fun y1 r1 => ?_
    cases r1.strI
    walk_at "sts"
    refine x_eqZ ?_
    rw [e1] at q
    walk_at "sts"
    refine x_dec (fun c => ?_) (fun c => ?_)
    · walk_at "sts"
      refine x_ixL hp (v := vt) rfl ?_
      walk_at "sts"
      refine x_ixL hp (v := .int (j : Int)) rfl ?_
      walk_at "sts"
      refine x_ixR (i := j) rt (.inr rfl) ge rfl fun tv2 rtv2 => ?_
      walk_at "sts"
      refine x_ixR (i := 0) (d' := .str kk) rtv2 (.inl rfl) rfl rfl fun y2 r2 => ?_
      cases r2.strI
      walk_at "sts"
      refine x_neS ?_
      rw [decide_eq_false nb]
      rw [decide_eq_true c] at q
      exact q
    · walk_at "sts"
      rw [decide_eq_false c] at q
      exact q


theorem x_exp {ex : List Addr} {p : Addr} {t k : Str} {ts : List Str} {wv : V} {H : Hp} {Q : VK} {E : XK} (h : Lr ex H p (t :: ts)) (hk : Tk t k) (hw : wv = .non ∨ wv = .str t) (q : ∀ H', Kp [p] H H' → Lr ex H' p ts → Q (.str t) H') : sp__law_expect [.ref p, .str k, wv] H Q E := .inl ⟨ex, p, t, k, ts, wv, rfl, h, hk, hw, q⟩
theorem x_expE {ex : List Addr} {p : Addr} {H : Hp} {Q : VK} {E : XK} (h : Lr ex H p []) (q : Q (.str "") H) : sp__law_expect [.ref p, .str "end", .non] H Q E := .inr ⟨ex, p, rfl, h, q⟩
theorem x_nxt {ex : List Addr} {p : Addr} {wd : Str} {ts : List Str} {H : Hp} {Q : VK} {E : XK} (h : Lr ex H p ts) (n : wd ≠ "") (q : Q (.bl (decide (ts.headD "" = wd))) H) : sp__law_is_next [.ref p, .str wd] H Q E := ⟨ex, p, wd, ts, rfl, h, n, q⟩
theorem Lr.same {ex : List Addr} {p : Addr} {ts : List Str} {H H' : Hp} (h : Lr ex H p ts) (s : Same H H') : Lr ex H' p ts := by
  obtain ⟨z, vt, L, j, hp, rt, r⟩ := h
  exact ⟨z, vt, L, j, s _ _ hp, rt.same s, r⟩
theorem Lr.own {ex : List Addr} {p l : Addr} {o : HO} {ts : List Str} {H : Hp} (h : Lr ex H p ts) (m : l ∈ ex) (n : p ≠ l) : Lr ex (upd H l o) p ts := by
  obtain ⟨z, vt, L, j, hp, rt, r⟩ := h
  exact ⟨z, vt, L, j, upd_get' n hp, rt.kp (Kp.refl.mut (List.mem_cons_of_mem _ m)), r⟩
theorem Lr.grow {ex : List Addr} {p l : Addr} {ts : List Str} {H : Hp} (h : Lr ex H p ts) (e : H l = none) : Lr (l :: ex) H p ts := by
  obtain ⟨z, vt, L, j, hp, rt, r⟩ := h
  exact ⟨z, vt, L, j, hp, (rt.grow e).less (fun a m => by
    rcases List.mem_cons.mp m with rfl | m
    · exact List.mem_cons_of_mem _ List.mem_cons_self
    · rcases List.mem_cons.mp m with rfl | m
      · exact List.mem_cons_self
      · exact List.mem_cons_of_mem _ (List.mem_cons_of_mem _ m)), r⟩
theorem Lr.tail {ex : List Addr} {p l : Addr} {ts : List Str} {H : Hp} (h : Lr (l :: ex) H p ts) : Lr ex H p ts := by
  obtain ⟨z, vt, L, j, hp, rt, r⟩ := h
  exact ⟨z, vt, L, j, hp, rt.less (fun a m => by
    rcases List.mem_cons.mp m with rfl | m
    · exact List.mem_cons_self
    · exact List.mem_cons_of_mem _ (List.mem_cons_of_mem _ m)), r⟩
theorem Lr.live {ex : List Addr} {p : Addr} {ts : List Str} {H : Hp} (h : Lr ex H p ts) : Live [p] H := by
  obtain ⟨z, vt, L, j, hp, _⟩ := h
  exact Live.one hp
theorem Lr.ne {ex : List Addr} {p l : Addr} {ts : List Str} {H : Hp} (h : Lr ex H p ts) (e : H l = none) : p ≠ l := by
  obtain ⟨z, vt, L, j, hp, _⟩ := h
  exact fun q => by rw [q, e] at hp; cases hp
/-- the state's row of tokens, and how many at least -/
theorem Lr.row {ex : List Addr} {p : Addr} {ts : List Str} {H : Hp} (h : Lr ex H p ts) : ∃ (vt : V) (j : Int) (ds : List Da), H p = some (.lst [vt, .int j, .non]) ∧ Rp (p :: ex) H vt (.lst ds) ∧ ts.length < ds.length ∧ ds.length ≤ 90001 := by
  obtain ⟨z, vt, L, j, hp, rt, jl, et, _, ll⟩ := h
  refine ⟨vt, _, _, hp, rt, ?_, ?_⟩
  · rw [← et, List.length_map, List.length_drop, List.length_append, List.length_map, List.length_singleton]
    omega
  · rw [List.length_append, List.length_map, List.length_singleton]
    omega
theorem tk_word {w : Str} (h : Wdy w) : Tk w "word" := .inl ⟨h, rfl⟩
theorem tk_num {i : Int} (h : Sm i) : Tk (tI i) "number" := .inr (.inl ⟨⟨i, h, rfl⟩, rfl⟩)
theorem tk_sign {t : Str} (h : t ∈ sgs) : Tk t "sign" := .inr (.inr ⟨h, rfl⟩)
def sp__law_read_after : Sp := fun vs H Q _ => ∃ (ex : List Addr) (p : Addr) (wd : Str) (i : Int) (ts : List Str), vs = [.ref p, .str wd] ∧ Lr ex H p (wd :: tI i :: ts) ∧ Wdy wd ∧ Sm i ∧ ∀ H', Kp [p] H H' → Lr ex H' p ts → Q (.int i) H'
theorem x_lafter {ex : List Addr} {p : Addr} {wd : Str} {i : Int} {ts : List Str} {H : Hp} {Q : VK} {E : XK} (h : Lr ex H p (wd :: tI i :: ts)) (hw : Wdy wd) (hi : Sm i) (q : ∀ H', Kp [p] H H' → Lr ex H' p ts → Q (.int i) H') : sp__law_read_after [.ref p, .str wd] H Q E := ⟨ex, p, wd, i, ts, rfl, h, hw, hi, q⟩
theorem ok__law_read_after {f : Addr} {fd : FuncData} (F : Fun K "_law_read_after" "_law_read_after" s__law_read_after f fd) (T : Txt K mg w D_READERS D_WORDS V_read_box V_read_condition V_read_conditional V_read_drop V_read_during V_read_first V_read_list V_read_nearest V_read_nothing V_read_number V_read_pair V_read_put V_read_skyline V_read_turn C_Reader tk_ALL tk_MOST_DIGITS) (O__law_expect : Ok P w K mg base 1 "_law_expect" ["state", "kind", "word"] (sp__law_expect)) : FnOk P w K mg base CX0 2 f fd ["state", "word"] sp__law_read_after := by
  refine F.ok sc__law_read_after (fun vs H Q E h => ?_) (fun cdv A outer s H vs Q E hr h => ?_)
  · obtain ⟨ex, p, wd, i, ts, rfl, _⟩ := h
    rfl
  · obtain ⟨ex, p, wd, i, ts, rfl, h, hw, hi, q⟩ := h
    refine ⟨_, d__law_read_after hr T O__law_expect, ?_⟩
    unfold t__law_read_after
    refine x_start (σ' := [some (.ref p), some (.str wd)]) rfl ?_
    have tl := tI_len hi
    walk_at "sts"
    refine x_exp h (tk_word hw) (.inr rfl) fun H1 k1 r1 => ?_
    walk_at "sts"
    refine x_exp r1 (tk_num hi) (.inl rfl) fun H2 k2 r2 => ?_
    walk_at "sts"
    refine x_intS (tI_int hi) (by omega) ?_
    exact q H2 (k1.trans k2) r2


theorem tlK_len {α : Type} {k : α → List Str} : ∀ xs : List α, xs.length < (tlK k xs).length
  | [] => Nat.lt_succ_self 0
  | x :: xs => by
    have := tlK_len (k := k) xs
    show xs.length + 1 < (k x ++ tlK k xs).length + 1
    rw [List.length_append]
    omega
def dqK (bb : Bool) (q : Int × Int) : Da := if bb = true then pr2D q else .int q.1
def Gl95 (bb : Bool) (ts : List Str) (d : Da) (ts' : List Str) : Prop := (bb = false ∧ Glist ts d ts') ∨ (bb = true ∧ Gbox ts d ts')
theorem ser_dup (ns : List Int) : serK (fun i => [tI i]) ns = serK prK (ns.map fun i => (i, i)) := by
  have h : ∀ l : List Int, tlK (fun i => [tI i]) l = tlK prK (l.map fun i => (i, i)) := fun l => by
    induction l with
    | nil => rfl
    | cons x l ih =>
      show ("," : Str) :: ([tI x] ++ tlK (fun i => [tI i]) l) = ("," : Str) :: (prK (x, x) ++ tlK prK (l.map fun i => (i, i)))
      rw [ih]
      unfold prK
      rw [if_pos rfl]
  cases ns with
  | nil => rfl
  | cons x l =>
    show ("[" : Str) :: ([tI x] ++ tlK (fun i => [tI i]) l) = ("[" : Str) :: (prK (x, x) ++ tlK prK (l.map fun i => (i, i)))
    rw [h]
    unfold prK
    rw [if_pos rfl]
theorem gl_both {bb : Bool} {ts ts' : List Str} {d : Da} (h : Gl95 bb ts d ts') : ∃ xs : List (Int × Int), 0 < xs.length ∧ xs.length ≤ 100 ∧ (∀ q, q ∈ xs → Sm q.1 ∧ Sm q.2) ∧ (bb = false → ∀ q, q ∈ xs → q.1 = q.2) ∧ ts = serK prK xs ++ ts' ∧ d = .tup (xs.map (dqK bb)) := by
  rcases h with ⟨rfl, ns, on, ln, rfl, rfl⟩ | ⟨rfl, b, ob, lb, rfl, rfl⟩
  · refine ⟨ns.map fun i => (i, i), by rw [List.length_map]; exact ln, by rw [List.length_map]; exact on.1, fun q hq => ?_, fun _ q hq => ?_, by rw [ser_dup], ?_⟩
    · obtain ⟨i, hi, rfl⟩ := List.mem_map.mp hq
      exact ⟨on.2 i hi, on.2 i hi⟩
    · obtain ⟨i, hi, rfl⟩ := List.mem_map.mp hq
      rfl
    · rw [List.map_map]
      rfl
  · exact ⟨b, lb, ob.1, ob.2, fun z => (nomatch z), rfl, rfl⟩
theorem dq_dn (bb : Bool) (q : Int × Int) : Dn 3 (dqK bb q) := by
  unfold dqK
  split
  · refine .tup (Nat.le_of_ble_eq_true rfl) fun d hd => ?_
    simp only [List.mem_cons, List.not_mem_nil, or_false] at hd
    rcases hd with rfl | rfl
    · exact .int _
    · exact .int _
  · exact .int _
theorem sg4 : (("[" : Str) ∈ sgs ∧ ("]" : Str) ∈ sgs) ∧ ("," : Str) ∈ sgs ∧ (".." : Str) ∈ sgs := by unfold sgs; simp
def sp__law_read_list : Sp := fun vs H Q _ => ∃ (ex : List Addr) (p : Addr) (bb : Bool) (ts ts' : List Str) (d : Da), vs = [.ref p, .bl bb] ∧ Lr ex H p ts ∧ Gl95 bb ts d ts' ∧ ∀ v H', Kp [p] H H' → Lr ex H' p ts' → Rp [p] H' v d → Q v H'
theorem x_rdlist {ex : List Addr} {p : Addr} {bb : Bool} {ts ts' : List Str} {d : Da} {H : Hp} {Q : VK} {E : XK} (h : Lr ex H p ts) (g : Gl95 bb ts d ts') (q : ∀ v H', Kp [p] H H' → Lr ex H' p ts' → Rp [p] H' v d → Q v H') : sp__law_read_list [.ref p, .bl bb] H Q E := ⟨ex, p, bb, ts, ts', d, rfl, h, g, q⟩
theorem x_lenRow {K : PySem.W.Frag} {p : Addr} {ex : List Addr} {vt : V} {ds : List Da} {H : Hp} {Q : VK} (h : Rp ex H vt (.lst ds)) (q : Q (.int (ds.length : Int)) H) : rLen K [vt] H Q := x_lenR h (.inr rfl) q
set_option maxHeartbeats 1000000 in
theorem ok__law_read_list {f : Addr} {fd : FuncData} (F : Fun K "_law_read_list" "_law_read_list" s__law_read_list f fd) (T : Txt K mg w D_READERS D_WORDS V_read_box V_read_condition V_read_conditional V_read_drop V_read_during V_read_first V_read_list V_read_nearest V_read_nothing V_read_number V_read_pair V_read_put V_read_skyline V_read_turn C_Reader tk_ALL tk_MOST_DIGITS) (O__law_expect : Ok P w K mg base 1 "_law_expect" ["state", "kind", "word"] (sp__law_expect)) (O__law_is_next : Ok P w K mg base 1 "_law_is_next" ["state", "word"] (sp__law_is_next)) : FnOk P w K mg base CX0 2 f fd ["state", "pairs"] sp__law_read_list := by
  refine F.ok sc__law_read_list (fun vs H Q E h => ?_) (fun cdv A outer s H vs Q E hr h => ?_)
  · obtain ⟨ex, p, bb, ts, ts', d, rfl, _⟩ := h
    rfl
  · obtain ⟨ex, p, bb, ts, ts', d, rfl, h, g, k⟩ := h
    obtain ⟨xs, h0, hl, hs, he, rfl, rfl⟩ := gl_both g
    refine ⟨_, d__law_read_list hr T O__law_expect O__law_is_next, ?_⟩
    unfold t__law_read_list
    refine x_start (σ' := [some (.ref p), some (.bl bb), none, none, none, none]) rfl ?_
    match xs, h0, hl, hs, he, h, k with
    | x0 :: xs, _, hl, hs, he, h, k =>
      have h : Lr ex H p (("[":Str) :: (prK x0 ++ (tlK prK xs ++ ts'))) := by
        have e : serK prK (x0 :: xs) ++ ts' = ("[":Str) :: (prK x0 ++ (tlK prK xs ++ ts')) := by
          show (("[":Str) :: (prK x0 ++ tlK prK xs)) ++ ts' = _
          rw [List.cons_append, List.append_assoc]
        rw [e] at h
        exact h
      have hd : ∀ l : List (Int × Int), (tlK prK l ++ ts').headD "" ≠ ".." := by
        intro l
        cases l with
        | nil => show ("]" : Str) ≠ ".."; decide +kernel
        | cons x l => show ("," : Str) ≠ ".."; decide +kernel
      walk_at "sts"
      refine x_exp h (tk_sign sg4.1.1) (.inr rfl) fun H1 k1 r1 => ?_
      walk_at "sts"
      refine x_mklN (m := 0) rfl (by decide) fun l H2 s2 z2 e2 => ?_
      have hpl := r1.ne z2
      have r2 := (r1.grow z2).same s2
      have zl : H l = none := Kp.none k1 (not1' (Ne.symm hpl)) z2
      walk_at "sts"
      obtain ⟨vt, j, ds, hp2, rt2, l1, l2⟩ := r2.row
      have le1 := tlK_len (k := prK) xs
      have pk0 : 0 < (prK x0).length := by unfold prK; split <;> exact Nat.zero_lt_succ _
      rw [List.length_append, List.length_append] at l1
      refine x_cut (fun σ' H' => ∃ (vs : List V) (x3 x4 x5 : Option V), σ' = [some (.ref p), some (.bl bb), some (.ref l), x3, x4, x5] ∧ Kp [p] H H' ∧ Lr (l :: ex) H' p (("]":Str) :: ts') ∧ H' l = some (.lst vs) ∧ Rps [l, p] H' vs ((x0 :: xs).map (dqK bb))) ?_ ?_
      · walk_at "sts"
        refine x_ixL hp2 (v := vt) rfl ?_
        walk_at "sts"
        refine x_lenR rt2 (.inr rfl) ?_
        walk_at "sts"
        refine x_rng ds.length (by omega) rfl ?_
        refine x_loopR (fun i σ H' => ∃ (ys rest : List (Int × Int)) (x : Int × Int) (vs : List V) (x3 x4 x5 : Option V), σ = [some (.ref p), some (.bl bb), some (.ref l), x3, x4, x5] ∧ x0 :: xs = ys ++ x :: rest ∧ ys.length = i ∧ Kp [p] H H' ∧ Lr (l :: ex) H' p (prK x ++ (tlK prK rest ++ ts')) ∧ H' l = some (.lst vs) ∧ Rps [l, p] H' vs (ys.map (dqK bb))) ?_ ?_ ?_
        · exact ⟨[], xs, x0, [], _, _, _, rfl, rfl, rfl, k1.same s2, r2, e2, Rps.nil⟩
        · rintro i σ H' hi ⟨ys, rest, x, vs, x3, x4, x5, rfl, exs, yl, kp, rR, el, rps⟩
          have hx := hs x (by rw [exs]; simp)
          have t1 := tI_len hx.1
          have t2 := tI_len hx.2
          have hvl : vs.length < 100000 := by
            have h1 := rps.1
            rw [List.length_map] at h1
            have h2 : (x0 :: xs).length = (ys ++ x :: rest).length := by rw [exs]
            rw [List.length_append] at h2
            omega
          walk_at "sts"
          refine x_exp (t := tI x.1) (ts := (if x.1 = x.2 then [] else [("..":Str), tI x.2]) ++ (tlK prK rest ++ ts')) (by
            have e : prK x ++ (tlK prK rest ++ ts') = tI x.1 :: ((if x.1 = x.2 then [] else [("..":Str), tI x.2]) ++ (tlK prK rest ++ ts')) := by
              unfold prK
              split <;> rfl
            rw [← e]
            exact rR) (tk_num hx.1) (.inl rfl) fun H3 k3 r3 => ?_
          have el3 := k3 _ _ (not1' (Ne.symm hpl)) el
          have rps3 := rps_kp rps k3.more
          walk_at "sts"
          refine x_intS (tI_int hx.1) (by omega) ?_
          walk_at "sts"
          refine x_cut (fun σ' H'' => σ' = [some (.ref p), some (.bl bb), some (.ref l), some (.int (i : Int)), some (.int x.1), some (.int x.2)] ∧ Kp [p] H3 H'' ∧ Lr (l :: ex) H'' p (tlK prK rest ++ ts')) ?_ ?_
          · walk_at "sts"
            by_cases c : x.1 = x.2
            · rw [if_pos c, List.nil_append] at r3
              cases bb with
              | false =>
                walk_at "sts"
                exact ⟨by rw [← c]; rfl, Kp.refl, r3⟩
              | true =>
                walk_at "sts"
                refine x_nxt r3 (by decide +kernel) ?_
                rw [decide_eq_false (hd rest)]
                walk_at "sts"
                exact ⟨by rw [← c]; rfl, Kp.refl, r3⟩
            · rw [if_neg c] at r3
              cases bb with
              | false => exact absurd (he rfl x (by rw [exs]; simp)) c
              | true =>
                walk_at "sts"
                refine x_nxt r3 (by decide +kernel) ?_
                rw [show decide (([("..":Str), tI x.2] ++ (tlK prK rest ++ ts')).headD "" = "..") = true from decide_eq_true rfl]
                walk_at "sts"
                refine x_exp (t := "..") (ts := tI x.2 :: (tlK prK rest ++ ts')) r3 (tk_sign sg4.2.2) (.inr rfl) fun H4 k4 r4 => ?_
                walk_at "sts"
                refine x_exp r4 (tk_num hx.2) (.inl rfl) fun H5 k5 r5 => ?_
                walk_at "sts"
                refine x_intS (tI_int hx.2) (by omega) ?_
                walk_at "sts"
                exact ⟨rfl, k4.trans k5, r5⟩
          · rintro σ' H4 ⟨rfl, k4, r4⟩
            have el4 := k4 _ _ (not1' (Ne.symm hpl)) el3
            have rps4 := rps_kp rps3 k4.more
            have kp4 := (kp.trans k3).trans k4
            have go : ∀ (v : V) (H5 : Hp), Same H4 H5 → Rp [p] H5 v (dqK bb x) → rAppend (.ref l) [v] H5 (fun _ H6 => tSeq (tIfS (tNot (tB (tCallO sp__law_is_next (tCons (tVar 0) (tCons (tC (.str ",")) tNil))))) tBreak tNext)
                (tDrop (tCallO sp__law_expect (tCons (tVar 0) (tCons (tC (.str "sign")) (tCons (tC (.str ",")) tNil)))))
                ⟨fun σ H' => ∃ (ys rest : List (Int × Int)) (x : Int × Int) (vs : List V) (x3 x4 x5 : Option V), σ = [some (.ref p), some (.bl bb), some (.ref l), x3, x4, x5] ∧ x0 :: xs = ys ++ x :: rest ∧ ys.length = i + 1 ∧ Kp [p] H H' ∧ Lr (l :: ex) H' p (prK x ++ (tlK prK rest ++ ts')) ∧ H' l = some (.lst vs) ∧ Rps [l, p] H' vs (ys.map (dqK bb)), Q,
                  fun σ' H' => ∃ (vs : List V) (x3 x4 x5 : Option V), σ' = [some (.ref p), some (.bl bb), some (.ref l), x3, x4, x5] ∧ Kp [p] H H' ∧ Lr (l :: ex) H' p (("]":Str) :: ts') ∧ H' l = some (.lst vs) ∧ Rps [l, p] H' vs ((x0 :: xs).map (dqK bb)),
                  fun σ H' => ∃ (ys rest : List (Int × Int)) (x : Int × Int) (vs : List V) (x3 x4 x5 : Option V), σ = [some (.ref p), some (.bl bb), some (.ref l), x3, x4, x5] ∧ x0 :: xs = ys ++ x :: rest ∧ ys.length = i + 1 ∧ Kp [p] H H' ∧ Lr (l :: ex) H' p (prK x ++ (tlK prK rest ++ ts')) ∧ H' l = some (.lst vs) ∧ Rps [l, p] H' vs (ys.map (dqK bb))⟩
                [some (.ref p), some (.bl bb), some (.ref l), some (.int (i : Int)), some (.int x.1), some (.int x.2)] H6) := by
              intro v H5 s5 rv
              have el5 := s5 _ _ el4
              refine x_app el5 (szl hvl) ?_
              have kk : Kp [l, p] H5 (upd H5 l (.lst (vs ++ [v]))) := Kp.refl.mut List.mem_cons_self
              have r6 := (r4.same s5).own (o := .lst (vs ++ [v])) List.mem_cons_self hpl
              have rps6 : Rps [l, p] (upd H5 l (.lst (vs ++ [v]))) (vs ++ [v]) ((ys ++ [x]).map (dqK bb)) := by
                rw [List.map_append]
                exact rps_snoc (rps_kp (rps_same rps4 s5) kk) ((rv.avoid el5 (dq_dn bb x)).kp kk)
              have kp6 : Kp [p] H (upd H5 l (.lst (vs ++ [v]))) := (kp4.same s5).own zl
              have el6 : upd H5 l (.lst (vs ++ [v])) l = some (.lst (vs ++ [v])) := upd_same
              generalize upd H5 l (.lst (vs ++ [v])) = H6 at r6 rps6 kp6 el6
              walk_at "sts"
              refine x_nxt r6 (by decide +kernel) ?_
              match rest, exs, r6 with
              | [], exs, r6 =>
                rw [show decide ((tlK prK [] ++ ts').headD "" = ",") = false from decide_eq_false (show ¬ (("]" : Str) = ",") by decide +kernel)]
                walk_at "sts"
                exact ⟨vs ++ [v], _, _, _, rfl, kp6, r6, el6, by rw [exs]; exact rps6⟩
              | y :: rest, exs, r6 =>
                rw [show decide ((tlK prK (y :: rest) ++ ts').headD "" = ",") = true from decide_eq_true rfl]
                walk_at "sts"
                have e1 : tlK prK (y :: rest) ++ ts' = (",":Str) :: (prK y ++ (tlK prK rest ++ ts')) := by
                  show ((",":Str) :: (prK y ++ tlK prK rest)) ++ ts' = _
                  rw [List.cons_append, List.append_assoc]
                rw [e1] at r6
                refine x_exp r6 (tk_sign sg4.2.1) (.inr rfl) fun H7 k7 r7 => ?_
                walk_at "sts"
                exact ⟨ys ++ [x], rest, y, vs ++ [v], _, _, _, rfl, by rw [exs]; simp, by rw [List.length_append, yl]; rfl, kp6.trans k7, r7, k7 _ _ (not1' (Ne.symm hpl)) el6, rps_kp rps6 k7.more⟩
            walk_at "sts"
            refine x_bmL el4 ?_
            cases bb with
            | true =>
              walk_at "sts"
              refine x_mkT (ex := [p]) (ds := [.int x.1, .int x.2]) (Rps.cons (.int _) (Rps.cons (.int _) Rps.nil)) r4.live (Nat.le_of_ble_eq_true rfl) fun v H5 s5 rv => ?_
              walk_at "sts"
              exact go v H5 s5 rv
            | false =>
              walk_at "sts"
              exact go (.int x.1) H4 (Same.refl _) (.int _)
        · rintro σ H' ⟨ys, rest, x, vs, x3, x4, x5, rfl, exs, yl, _⟩
          exfalso
          have h2 : (x0 :: xs).length = (ys ++ x :: rest).length := by rw [exs]
          rw [List.length_append, List.length_cons, List.length_cons] at h2
          omega
      · rintro σ' H3 ⟨vs, x3, x4, x5, rfl, kp, r3, el, rps⟩
        walk_at "sts"
        refine x_exp r3 (tk_sign sg4.1.2) (.inr rfl) fun H4 k4 r4 => ?_
        have el4 := k4 _ _ (not1' (Ne.symm hpl)) el
        walk_at "sts"
        refine x_tupL (SqL.of el4) fun u hu => ?_
        have s5 := Same.new (o := .tup vs) (Same.refl H4) hu
        have hup : u ∉ [p] := not1' (Ne.symm (r4.ne hu))
        exact k _ _ ((kp.trans k4).same s5) (r4.tail.same s5) (rps_tup (rps_same (rps_tail (rps_kp rps k4.more)) s5) hup upd_same)


def sp__law_read_speed : Sp := fun vs H Q _ => ∃ (ex : List Addr) (p : Addr) (ov : V) (ts : List Str), vs = [.ref p, ov] ∧ Lr ex H p ts ∧ ((ts.headD "" ≠ "speed" ∧ Q ov H) ∨ ∃ (t1 ts' : List Str) (d : Da), ts = ("speed" : Str) :: t1 ∧ Glist t1 d ts' ∧ ∀ v H', Kp [p] H H' → Lr ex H' p ts' → Rp [p] H' v d → Q v H')
theorem x_lspN {ex : List Addr} {p : Addr} {ov : V} {ts : List Str} {H : Hp} {Q : VK} {E : XK} (h : Lr ex H p ts) (n : ts.headD "" ≠ "speed") (q : Q ov H) : sp__law_read_speed [.ref p, ov] H Q E := ⟨ex, p, ov, ts, rfl, h, .inl ⟨n, q⟩⟩
theorem x_lspY {ex : List Addr} {p : Addr} {ov : V} {ts ts' : List Str} {d : Da} {H : Hp} {Q : VK} {E : XK} (h : Lr ex H p (("speed" : Str) :: ts)) (g : Glist ts d ts') (q : ∀ v H', Kp [p] H H' → Lr ex H' p ts' → Rp [p] H' v d → Q v H') : sp__law_read_speed [.ref p, ov] H Q E := ⟨ex, p, ov, _, rfl, h, .inr ⟨ts, ts', d, rfl, g, q⟩⟩
theorem ok__law_read_speed {f : Addr} {fd : FuncData} (F : Fun K "_law_read_speed" "_law_read_speed" s__law_read_speed f fd) (T : Txt K mg w D_READERS D_WORDS V_read_box V_read_condition V_read_conditional V_read_drop V_read_during V_read_first V_read_list V_read_nearest V_read_nothing V_read_number V_read_pair V_read_put V_read_skyline V_read_turn C_Reader tk_ALL tk_MOST_DIGITS) (O__law_expect : Ok P w K mg base 1 "_law_expect" ["state", "kind", "word"] (sp__law_expect)) (O__law_is_next : Ok P w K mg base 1 "_law_is_next" ["state", "word"] (sp__law_is_next)) (O__law_read_list : Ok P w K mg base 2 "_law_read_list" ["state", "pairs"] (sp__law_read_list)) : FnOk P w K mg base CX0 3 f fd ["state", "other"] sp__law_read_speed := by
  refine F.ok sc__law_read_speed (fun vs H Q E h => ?_) (fun cdv A outer s H vs Q E hr h => ?_)
  · obtain ⟨ex, p, ov, ts, rfl, _⟩ := h
    rfl
  · obtain ⟨ex, p, ov, ts, rfl, h, g⟩ := h
    refine ⟨_, d__law_read_speed hr T O__law_expect O__law_is_next O__law_read_list, ?_⟩
    unfold t__law_read_speed
    refine x_start (σ' := [some (.ref p), some ov]) rfl ?_
    walk_at "sts"
    refine x_nxt h (by decide +kernel) ?_
    rcases g with ⟨n, q⟩ | ⟨t1, ts', d, rfl, g, q⟩
    · rw [decide_eq_false n]
      walk_at "sts"
      exact q
    · rw [show decide ((("speed" : Str) :: t1).headD "" = "speed") = true from decide_eq_true rfl]
      walk_at "sts"
      refine x_exp h (tk_word (wdy_of (by decide +kernel))) (.inr rfl) fun H1 k1 r1 => ?_
      walk_at "sts"
      exact x_rdlist r1 (.inl ⟨rfl, g⟩) fun v H2 k2 r2 rv => q v H2 (k1.trans k2) r2 rv
theorem csT_len : ∀ cs : List (Str × Bx97), cs.length ≤ (csT cs).length
  | [] => Nat.le_refl 0
  | c :: cs => by
    have := csT_len cs
    show cs.length + 1 ≤ (cdK c ++ csT cs).length + 1
    rw [List.length_append]
    omega
def sp__law_read_wants : Sp := fun vs H Q _ => ∃ (ex : List Addr) (p : Addr) (ts ts' : List Str) (d : Da), vs = [.ref p] ∧ Lr ex H p ts ∧ Gcs ts d ts' ∧ ∀ v H', Kp [p] H H' → Lr ex H' p ts' → Rp [p] H' v d → Q v H'
theorem x_rdwants {ex : List Addr} {p : Addr} {ts ts' : List Str} {d : Da} {H : Hp} {Q : VK} {E : XK} (h : Lr ex H p ts) (g : Gcs ts d ts') (q : ∀ v H', Kp [p] H H' → Lr ex H' p ts' → Rp [p] H' v d → Q v H') : sp__law_read_wants [.ref p] H Q E := ⟨ex, p, ts, ts', d, rfl, h, g, q⟩
set_option maxHeartbeats 1000000 in
theorem ok__law_read_wants {f : Addr} {fd : FuncData} (F : Fun K "_law_read_wants" "_law_read_wants" s__law_read_wants f fd) (T : Txt K mg w D_READERS D_WORDS V_read_box V_read_condition V_read_conditional V_read_drop V_read_during V_read_first V_read_list V_read_nearest V_read_nothing V_read_number V_read_pair V_read_put V_read_skyline V_read_turn C_Reader tk_ALL tk_MOST_DIGITS) (O__law_expect : Ok P w K mg base 1 "_law_expect" ["state", "kind", "word"] (sp__law_expect)) (O__law_is_next : Ok P w K mg base 1 "_law_is_next" ["state", "word"] (sp__law_is_next)) (O__law_read_list : Ok P w K mg base 2 "_law_read_list" ["state", "pairs"] (sp__law_read_list)) : FnOk P w K mg base CX0 3 f fd ["state"] sp__law_read_wants := by
  refine F.ok sc__law_read_wants (fun vs H Q E h => ?_) (fun cdv A outer s H vs Q E hr h => ?_)
  · obtain ⟨ex, p, ts, ts', d, rfl, _⟩ := h
    rfl
  · obtain ⟨ex, p, ts, ts', d, rfl, h, ⟨cs, oc, rfl, rfl, hn⟩, k⟩ := h
    refine ⟨_, d__law_read_wants hr T O__law_expect O__law_is_next O__law_read_list, ?_⟩
    unfold t__law_read_wants
    refine x_start (σ' := [some (.ref p), none, none, none]) rfl ?_
    walk_at "sts"
    refine x_nxt h (by decide +kernel) ?_
    match cs, oc, h, k with
    | [], oc, h, k =>
      rw [show decide ((csK [] ++ ts').headD "" = "all") = true from decide_eq_true rfl]
      walk_at "sts"
      refine x_exp (t := "all") (ts := ts') h (tk_word (wdy_of (by decide +kernel))) (.inr rfl) fun H1 k1 r1 => ?_
      walk_at "sts"
      refine x_mkT (ex := [p]) (ds := []) Rps.nil r1.live (Nat.le_of_ble_eq_true rfl) fun v H4 s4 rv => ?_
      exact k v H4 (k1.same s4) (r1.same s4) rv
    | c0 :: cs, oc, h, k =>
      have o0 := oc.2 c0 (by simp)
      have h : Lr ex H p (c0.1 :: (serK prK c0.2 ++ (csT cs ++ ts'))) := by
        have e : csK (c0 :: cs) ++ ts' = c0.1 :: (serK prK c0.2 ++ (csT cs ++ ts')) := by
          show (c0.1 :: serK prK c0.2 ++ csT cs) ++ ts' = _
          rw [List.cons_append, List.cons_append, List.append_assoc]
        rw [e] at h
        exact h
      rw [show decide ((csK (c0 :: cs) ++ ts').headD "" = "all") = false from decide_eq_false (fun q => by
        have q : c0.1 = "all" := q
        have hw := o0.1
        rw [q] at hw
        revert hw
        decide +kernel)]
      walk_at "sts"
      refine x_mklN (m := 0) rfl (by decide) fun l H2 s2 z2 e2 => ?_
      have hpl := h.ne z2
      have r2 := (h.grow z2).same s2
      walk_at "sts"
      obtain ⟨vt, j, ds, hp2, rt2, l1, l2⟩ := r2.row
      have le1 := csT_len cs
      rw [List.length_cons, List.length_append, List.length_append] at l1
      refine x_cut (fun σ' H' => ∃ (vs : List V) (x2 x3 : Option V), σ' = [some (.ref p), some (.ref l), x2, x3] ∧ Kp [p] H H' ∧ Lr (l :: ex) H' p ts' ∧ H' l = some (.lst vs) ∧ Rps [l, p] H' vs ((c0 :: cs).map cd2D)) ?_ ?_
      · walk_at "sts"
        refine x_ixL hp2 (v := vt) rfl ?_
        walk_at "sts"
        refine x_lenR rt2 (.inr rfl) ?_
        walk_at "sts"
        refine x_rng ds.length (by omega) rfl ?_
        refine x_loopR (fun i σ H' => ∃ (ys rest : List (Str × Bx97)) (c : Str × Bx97) (vs : List V) (x2 x3 : Option V), σ = [some (.ref p), some (.ref l), x2, x3] ∧ c0 :: cs = ys ++ c :: rest ∧ ys.length = i ∧ Kp [p] H H' ∧ Lr (l :: ex) H' p (c.1 :: (serK prK c.2 ++ (csT rest ++ ts'))) ∧ H' l = some (.lst vs) ∧ Rps [l, p] H' vs (ys.map cd2D)) ?_ ?_ ?_
        · exact ⟨[], cs, c0, [], _, _, rfl, rfl, rfl, Same.kp s2, r2, e2, Rps.nil⟩
        · rintro i σ H' hi ⟨ys, rest, c, vs, x2, x3, rfl, exs, yl, kp, rR, el, rps⟩
          have oe := oc.2 c (by rw [exs]; simp)
          have hvl : vs.length < 100000 := by
            have h1 := rps.1
            rw [List.length_map] at h1
            have h2 : (c0 :: cs).length = (ys ++ c :: rest).length := by rw [exs]
            rw [List.length_append] at h2
            have := oc.1
            omega
          walk_at "sts"
          refine x_exp rR (tk_word (wdy_wds oe.1)) (.inl rfl) fun H3 k3 r3 => ?_
          have el3 := k3 _ _ (not1' (Ne.symm hpl)) el
          have rps3 := rps_kp rps k3.more
          walk_at "sts"
          refine x_cut (fun σ' H'' => σ' = [some (.ref p), some (.ref l), some (.int (i : Int)), some (.str c.1)] ∧ Same H3 H'') ?_ ?_
          · obtain ⟨vt3, j3, ds3, hp3, _⟩ := r3.row
            walk_at "sts"
            refine x_ixL hp3 (v := .non) rfl ?_
            walk_at "sts"
            rw [decide_eq_true rfl]
            walk_at "sts"
            refine x_mkTN (Nat.le_of_ble_eq_true rfl) fun t H4 s4 z4 e4 => ?_
            walk_at "sts"
            refine x_ninS (ws := wds) (.inl (SqT.of e4)) ?_
            rw [show (!decide (c.1 ∈ wds)) = false by rw [decide_eq_true oe.1]; rfl]
            walk_at "sts"
            exact ⟨rfl, s4⟩
          · rintro σ' H4 ⟨rfl, s4⟩
            have r4 := r3.same s4
            have el4 := s4 _ _ el3
            have rps4 := rps_same rps3 s4
            walk_at "sts"
            refine x_bmL el4 ?_
            walk_at "sts"
            refine x_rdlist (d := bx2D c.2) r4 (.inr ⟨rfl, c.2, oe.2.1, oe.2.2, rfl, rfl⟩) fun vb H5 k5 r5 rb => ?_
            walk_at "sts"
            refine x_mkT (ex := [p]) (ds := [.str c.1, bx2D c.2]) (Rps.cons (.str _) (Rps.cons rb Rps.nil)) r5.live (Nat.le_of_ble_eq_true rfl) fun v H6 s6 rv => ?_
            have el6 := s6 _ _ (k5 _ _ (not1' (Ne.symm hpl)) el4)
            have kp6 := ((((kp.trans k3).same s4).trans k5).same s6)
            have r6 := (r5.same s6)
            have rps6 := rps_same (rps_kp rps4 k5.more) s6
            walk_at "sts"
            refine x_app el6 (szl hvl) ?_
            have kk : Kp [l, p] H6 (upd H6 l (.lst (vs ++ [v]))) := Kp.refl.mut List.mem_cons_self
            have r7 := r6.own (o := .lst (vs ++ [v])) List.mem_cons_self hpl
            have rps7 : Rps [l, p] (upd H6 l (.lst (vs ++ [v]))) (vs ++ [v]) ((ys ++ [c]).map cd2D) := by
              rw [List.map_append]
              exact rps_snoc (rps_kp rps6 kk) ((Rp.avoid rv el6 (cd_dn oe.2.1)).kp kk)
            have kp7 : Kp [p] H (upd H6 l (.lst (vs ++ [v]))) := kp6.own z2
            have el7 : upd H6 l (.lst (vs ++ [v])) l = some (.lst (vs ++ [v])) := upd_same
            generalize upd H6 l (.lst (vs ++ [v])) = H7 at r7 rps7 kp7 el7
            walk_at "sts"
            refine x_nxt r7 (by decide +kernel) ?_
            match rest, exs, r7 with
            | [], exs, r7 =>
              rw [show decide ((csT [] ++ ts').headD "" = "and") = false from decide_eq_false hn]
              walk_at "sts"
              exact ⟨vs ++ [v], _, _, rfl, kp7, r7, el7, by rw [exs]; exact rps7⟩
            | y :: rest, exs, r7 =>
              rw [show decide ((csT (y :: rest) ++ ts').headD "" = "and") = true from decide_eq_true rfl]
              have e1 : csT (y :: rest) ++ ts' = ("and" : Str) :: (y.1 :: (serK prK y.2 ++ (csT rest ++ ts'))) := by
                show (("and" : Str) :: (y.1 :: serK prK y.2 ++ csT rest)) ++ ts' = _
                rw [List.cons_append, List.cons_append, List.cons_append, List.append_assoc]
              rw [e1] at r7
              walk_at "sts"
              refine x_exp r7 (tk_word (wdy_of (by decide +kernel))) (.inr rfl) fun H8 k8 r8 => ?_
              walk_at "sts"
              exact ⟨ys ++ [c], rest, y, vs ++ [v], _, _, rfl, by rw [exs]; simp, by rw [List.length_append, yl]; rfl, kp7.trans k8, r8, k8 _ _ (not1' (Ne.symm hpl)) el7, rps_kp rps7 k8.more⟩
        · rintro σ H' ⟨ys, rest, c, vs, x2, x3, rfl, exs, yl, _⟩
          exfalso
          have h2 : (c0 :: cs).length = (ys ++ c :: rest).length := by rw [exs]
          rw [List.length_append, List.length_cons, List.length_cons] at h2
          omega
      · rintro σ' H3 ⟨vs, x2, x3, rfl, kp, r3, el, rps⟩
        walk_at "sts"
        refine x_tupL (SqL.of el) fun u hu => ?_
        have s5 := Same.new (o := .tup vs) (Same.refl H3) hu
        have hup : u ∉ [p] := not1' (Ne.symm (r3.ne hu))
        exact k _ _ (kp.same s5) (r3.tail.same s5) (rps_tup (rps_same (rps_tail rps) s5) hup upd_same)


def sp__law_read : Sp := fun vs H Q _ => ∃ (ex : List Addr) (p : Addr) (s : Stm), vs = [.ref p] ∧ Lr ex H p (s.wd :: s.tk) ∧ s.Ok ∧ ∀ v H', Kp [p] H H' → Lr ex H' p [] → Rp [p] H' v s.da → Q v H'
set_option maxHeartbeats 4000000 in
theorem ok__law_read {f : Addr} {fd : FuncData} (F : Fun K "_law_read" "_law_read" s__law_read f fd) (T : Txt K mg w D_READERS D_WORDS V_read_box V_read_condition V_read_conditional V_read_drop V_read_during V_read_first V_read_list V_read_nearest V_read_nothing V_read_number V_read_pair V_read_put V_read_skyline V_read_turn C_Reader tk_ALL tk_MOST_DIGITS) (O__law_expect : Ok P w K mg base 1 "_law_expect" ["state", "kind", "word"] (sp__law_expect)) (O__law_read_after : Ok P w K mg base 2 "_law_read_after" ["state", "word"] (sp__law_read_after)) (O__law_read_list : Ok P w K mg base 2 "_law_read_list" ["state", "pairs"] (sp__law_read_list)) (O__law_read_speed : Ok P w K mg base 3 "_law_read_speed" ["state", "other"] (sp__law_read_speed)) (O__law_read_wants : Ok P w K mg base 3 "_law_read_wants" ["state"] (sp__law_read_wants)) : FnOk P w K mg base CX0 4 f fd ["state"] sp__law_read := by
  refine F.ok sc__law_read (fun vs H Q E h => ?_) (fun cdv A outer s H vs Q E hr h => ?_)
  · obtain ⟨ex, p, s, rfl, _⟩ := h
    rfl
  · obtain ⟨ex, p, s, rfl, h, o, k⟩ := h
    refine ⟨_, d__law_read hr T O__law_expect O__law_read_after O__law_read_list O__law_read_speed O__law_read_wants, ?_⟩
    unfold t__law_read
    refine x_start (σ' := [some (.ref p), none, none, none, none, none, none, none, none, none, none]) rfl ?_
    walk_at "sts"
    refine x_exp h (tk_word (wdy_wd o)) (.inl rfl) fun H1 k1 r1 => ?_
    walk_at "sts"
    cases s with
    | drop i =>
      refine x_eqZ ?_
      walk_at "sts"
      refine x_dec (fun _ => ?_) (fun q => absurd rfl q)
      walk_at "sts"
      refine x_eqZ ?_
      walk_at "sts"
      refine x_dec (fun _ => ?_) (fun q => absurd rfl q)
      walk_at "sts"
      refine x_exp r1 (tk_num o) (.inl rfl) fun H2 k2 r2 => ?_
      walk_at "sts"
      refine x_intS (tI_int o) (by have := tI_len o; omega) ?_
      walk_at "sts"
      refine x_mkT (ex := [p]) (ds := [.str "drop", .int i]) (Rps.cons (.str _) (Rps.cons (.int _) Rps.nil)) r2.live (Nat.le_of_ble_eq_true rfl) fun u H3 s3 ru => ?_
      exact k u H3 ((k1.trans k2).same s3) (r2.same s3) ru
    | sky t =>
      refine x_eqZ ?_
      walk_at "sts"
      refine x_dec (fun q => absurd (show ("skyline" : Str) = "drop" from q) (by decide +kernel)) (fun _ => ?_)
      walk_at "sts"
      refine x_eqZ ?_
      walk_at "sts"
      refine x_dec (fun _ => ?_) (fun q => absurd rfl q)
      walk_at "sts"
      refine x_eqZ ?_
      walk_at "sts"
      refine x_dec (fun q => absurd (show ("skyline" : Str) = "drop" from q) (by decide +kernel)) (fun _ => ?_)
      walk_at "sts"
      refine x_lafter r1 (wdy_of (by decide +kernel)) o fun H2 k2 r2 => ?_
      walk_at "sts"
      refine x_mkT (ex := [p]) (ds := [.str "skyline", .int t]) (Rps.cons (.str _) (Rps.cons (.int _) Rps.nil)) r2.live (Nat.le_of_ble_eq_true rfl) fun u H3 s3 ru => ?_
      exact k u H3 ((k1.trans k2).same s3) (r2.same s3) ru
    | put i b sp =>
      obtain ⟨o1, o2, o3⟩ := o
      refine x_eqZ ?_
      walk_at "sts"
      refine x_dec (fun q => absurd (show ("put" : Str) = "drop" from q) (by decide +kernel)) (fun _ => ?_)
      walk_at "sts"
      refine x_eqZ ?_
      walk_at "sts"
      refine x_dec (fun q => absurd (show ("put" : Str) = "skyline" from q) (by decide +kernel)) (fun _ => ?_)
      walk_at "sts"
      refine x_eqZ ?_
      walk_at "sts"
      refine x_dec (fun _ => ?_) (fun q => absurd rfl q)
      walk_at "sts"
      refine x_exp r1 (tk_num o1) (.inl rfl) fun H2 k2 r2 => ?_
      walk_at "sts"
      refine x_intS (tI_int o1) (by have := tI_len o1; omega) ?_
      walk_at "sts"
      refine x_rdlist (ts' := spK sp) (d := bx2D b) r2 (.inr ⟨rfl, b, o2.1, o2.2, rfl, rfl⟩) fun v3 H3 k3 r3 rv3 => ?_
      walk_at "sts"
      cases sp with
      | none =>
        refine x_lspN r3 (show ¬ (("" : Str) = "speed") by decide +kernel) ?_
        walk_at "sts"
        refine x_mkT (ex := [p]) (ds := [.str "put", .int i, bx2D b, .non]) (Rps.cons (.str _) (Rps.cons (.int _) (Rps.cons rv3 (Rps.cons .non Rps.nil)))) r3.live (Nat.le_of_ble_eq_true rfl) fun u H4 s4 ru => ?_
        exact k u H4 (((k1.trans k2).trans k3).same s4) (r3.same s4) ru
      | some ns =>
        have on := o3 ns rfl
        refine x_lspY (ts' := []) (d := is2D ns) r3 ⟨ns, on.1, on.2, (List.append_nil _).symm, rfl⟩ fun v4 H4 k4 r4 rv4 => ?_
        walk_at "sts"
        refine x_mkT (ex := [p]) (ds := [.str "put", .int i, bx2D b, is2D ns]) (Rps.cons (.str _) (Rps.cons (.int _) (Rps.cons (rv3.kp k4) (Rps.cons rv4 Rps.nil)))) r4.live (Nat.le_of_ble_eq_true rfl) fun u H5 s5 ru => ?_
        exact k u H5 ((((k1.trans k2).trans k3).trans k4).same s5) (r4.same s5) ru
    | turn i t sp =>
      obtain ⟨o1, o2, o3, o4⟩ := o
      refine x_eqZ ?_
      walk_at "sts"
      refine x_dec (fun q => absurd (show ("turn" : Str) = "drop" from q) (by decide +kernel)) (fun _ => ?_)
      walk_at "sts"
      refine x_eqZ ?_
      walk_at "sts"
      refine x_dec (fun q => absurd (show ("turn" : Str) = "skyline" from q) (by decide +kernel)) (fun _ => ?_)
      walk_at "sts"
      refine x_eqZ ?_
      walk_at "sts"
      refine x_dec (fun q => absurd (show ("turn" : Str) = "put" from q) (by decide +kernel)) (fun _ => ?_)
      walk_at "sts"
      refine x_eqZ ?_
      walk_at "sts"
      refine x_dec (fun _ => ?_) (fun q => absurd rfl q)
      walk_at "sts"
      refine x_exp r1 (tk_num o1) (.inl rfl) fun H2 k2 r2 => ?_
      walk_at "sts"
      refine x_intS (tI_int o1) (by have := tI_len o1; omega) ?_
      walk_at "sts"
      refine x_lafter r2 (wdy_of (by decide +kernel)) o2 fun H3 k3 r3 => ?_
      walk_at "sts"
      refine x_exp r3 (tk_word (wdy_of (by decide +kernel))) (.inr rfl) fun H4 k4 r4 => ?_
      walk_at "sts"
      refine x_rdlist (ts' := []) (d := is2D sp) r4 (.inl ⟨rfl, sp, o3, o4, (List.append_nil _).symm, rfl⟩) fun v5 H5 k5 r5 rv5 => ?_
      walk_at "sts"
      refine x_mkT (ex := [p]) (ds := [.str "turn", .int i, .int t, is2D sp]) (Rps.cons (.str _) (Rps.cons (.int _) (Rps.cons (.int _) (Rps.cons rv5 Rps.nil)))) r5.live (Nat.le_of_ble_eq_true rfl) fun u H6 s6 ru => ?_
      exact k u H6 (((((k1.trans k2).trans k3).trans k4).trans k5).same s6) (r5.same s6) ru
    | cond w' cs t =>
      obtain ⟨o1, o2, o3⟩ := o
      rcases o1 with rfl | rfl
      · skip
        refine x_eqZ ?_
        walk_at "sts"
        refine x_dec (fun q => absurd (show ("select" : Str) = "drop" from q) (by decide +kernel)) (fun _ => ?_)
        walk_at "sts"
        refine x_eqZ ?_
        walk_at "sts"
        refine x_dec (fun q => absurd (show ("select" : Str) = "skyline" from q) (by decide +kernel)) (fun _ => ?_)
        walk_at "sts"
        refine x_eqZ ?_
        walk_at "sts"
        refine x_dec (fun q => absurd (show ("select" : Str) = "put" from q) (by decide +kernel)) (fun _ => ?_)
        walk_at "sts"
        refine x_eqZ ?_
        walk_at "sts"
        refine x_dec (fun q => absurd (show ("select" : Str) = "turn" from q) (by decide +kernel)) (fun _ => ?_)
        walk_at "sts"
        refine x_eqZ ?_
        walk_at "sts"
        refine x_dec (fun _ => ?_) (fun q => absurd rfl q)
        walk_at "sts"
        refine x_rdwants (ts' := [("at" : Str), tI t]) (d := .tup (cs.map cd2D)) r1 ⟨cs, o2, rfl, rfl, (show ¬ (("at" : Str) = "and") by decide +kernel)⟩ fun v2 H2 k2 r2 rv2 => ?_
        walk_at "sts"
        refine x_lafter r2 (wdy_of (by decide +kernel)) o3 fun H3 k3 r3 => ?_
        walk_at "sts"
        refine x_mkT (ex := [p]) (ds := [.str "select", .tup (cs.map cd2D), .int t]) (Rps.cons (.str _) (Rps.cons (rv2.kp k3) (Rps.cons (.int _) Rps.nil))) r3.live (Nat.le_of_ble_eq_true rfl) fun u H4 s4 ru => ?_
        exact k u H4 (((k1.trans k2).trans k3).same s4) (r3.same s4) ru
      · skip
        refine x_eqZ ?_
        walk_at "sts"
        refine x_dec (fun q => absurd (show ("count" : Str) = "drop" from q) (by decide +kernel)) (fun _ => ?_)
        walk_at "sts"
        refine x_eqZ ?_
        walk_at "sts"
        refine x_dec (fun q => absurd (show ("count" : Str) = "skyline" from q) (by decide +kernel)) (fun _ => ?_)
        walk_at "sts"
        refine x_eqZ ?_
        walk_at "sts"
        refine x_dec (fun q => absurd (show ("count" : Str) = "put" from q) (by decide +kernel)) (fun _ => ?_)
        walk_at "sts"
        refine x_eqZ ?_
        walk_at "sts"
        refine x_dec (fun q => absurd (show ("count" : Str) = "turn" from q) (by decide +kernel)) (fun _ => ?_)
        walk_at "sts"
        refine x_eqZ ?_
        walk_at "sts"
        refine x_dec (fun q => absurd (show ("count" : Str) = "select" from q) (by decide +kernel)) (fun _ => ?_)
        walk_at "sts"
        refine x_eqZ ?_
        walk_at "sts"
        refine x_dec (fun _ => ?_) (fun q => absurd rfl q)
        walk_at "sts"
        refine x_rdwants (ts' := [("at" : Str), tI t]) (d := .tup (cs.map cd2D)) r1 ⟨cs, o2, rfl, rfl, (show ¬ (("at" : Str) = "and") by decide +kernel)⟩ fun v2 H2 k2 r2 rv2 => ?_
        walk_at "sts"
        refine x_lafter r2 (wdy_of (by decide +kernel)) o3 fun H3 k3 r3 => ?_
        walk_at "sts"
        refine x_mkT (ex := [p]) (ds := [.str "count", .tup (cs.map cd2D), .int t]) (Rps.cons (.str _) (Rps.cons (rv2.kp k3) (Rps.cons (.int _) Rps.nil))) r3.live (Nat.le_of_ble_eq_true rfl) fun u H4 s4 ru => ?_
        exact k u H4 (((k1.trans k2).trans k3).same s4) (r3.same s4) ru
    | near m b t =>
      obtain ⟨o1, o2, o3⟩ := o
      refine x_eqZ ?_
      walk_at "sts"
      refine x_dec (fun q => absurd (show ("nearest" : Str) = "drop" from q) (by decide +kernel)) (fun _ => ?_)
      walk_at "sts"
      refine x_eqZ ?_
      walk_at "sts"
      refine x_dec (fun q => absurd (show ("nearest" : Str) = "skyline" from q) (by decide +kernel)) (fun _ => ?_)
      walk_at "sts"
      refine x_eqZ ?_
      walk_at "sts"
      refine x_dec (fun q => absurd (show ("nearest" : Str) = "put" from q) (by decide +kernel)) (fun _ => ?_)
      walk_at "sts"
      refine x_eqZ ?_
      walk_at "sts"
      refine x_dec (fun q => absurd (show ("nearest" : Str) = "turn" from q) (by decide +kernel)) (fun _ => ?_)
      walk_at "sts"
      refine x_eqZ ?_
      walk_at "sts"
      refine x_dec (fun q => absurd (show ("nearest" : Str) = "select" from q) (by decide +kernel)) (fun _ => ?_)
      walk_at "sts"
      refine x_eqZ ?_
      walk_at "sts"
      refine x_dec (fun q => absurd (show ("nearest" : Str) = "count" from q) (by decide +kernel)) (fun _ => ?_)
      walk_at "sts"
      refine x_eqZ ?_
      walk_at "sts"
      refine x_dec (fun _ => ?_) (fun q => absurd rfl q)
      walk_at "sts"
      refine x_exp r1 (tk_num o1) (.inl rfl) fun H2 k2 r2 => ?_
      walk_at "sts"
      refine x_intS (tI_int o1) (by have := tI_len o1; omega) ?_
      walk_at "sts"
      refine x_exp r2 (tk_word (wdy_of (by decide +kernel))) (.inr rfl) fun H3 k3 r3 => ?_
      walk_at "sts"
      refine x_rdlist (ts' := [("at" : Str), tI t]) (d := bx2D b) r3 (.inr ⟨rfl, b, o2.1, o2.2, rfl, rfl⟩) fun v4 H4 k4 r4 rv4 => ?_
      walk_at "sts"
      refine x_lafter r4 (wdy_of (by decide +kernel)) o3 fun H5 k5 r5 => ?_
      walk_at "sts"
      refine x_mkT (ex := [p]) (ds := [.str "nearest", .int m, bx2D b, .int t]) (Rps.cons (.str _) (Rps.cons (.int _) (Rps.cons (rv4.kp k5) (Rps.cons (.int _) Rps.nil)))) r5.live (Nat.le_of_ble_eq_true rfl) fun u H6 s6 ru => ?_
      exact k u H6 (((((k1.trans k2).trans k3).trans k4).trans k5).same s6) (r5.same s6) ru
    | dur b x e =>
      obtain ⟨o1, o2, o3⟩ := o
      refine x_eqZ ?_
      walk_at "sts"
      refine x_dec (fun q => absurd (show ("during" : Str) = "drop" from q) (by decide +kernel)) (fun _ => ?_)
      walk_at "sts"
      refine x_eqZ ?_
      walk_at "sts"
      refine x_dec (fun q => absurd (show ("during" : Str) = "skyline" from q) (by decide +kernel)) (fun _ => ?_)
      walk_at "sts"
      refine x_eqZ ?_
      walk_at "sts"
      refine x_dec (fun q => absurd (show ("during" : Str) = "put" from q) (by decide +kernel)) (fun _ => ?_)
      walk_at "sts"
      refine x_eqZ ?_
      walk_at "sts"
      refine x_dec (fun q => absurd (show ("during" : Str) = "turn" from q) (by decide +kernel)) (fun _ => ?_)
      walk_at "sts"
      refine x_eqZ ?_
      walk_at "sts"
      refine x_dec (fun q => absurd (show ("during" : Str) = "select" from q) (by decide +kernel)) (fun _ => ?_)
      walk_at "sts"
      refine x_eqZ ?_
      walk_at "sts"
      refine x_dec (fun q => absurd (show ("during" : Str) = "count" from q) (by decide +kernel)) (fun _ => ?_)
      walk_at "sts"
      refine x_eqZ ?_
      walk_at "sts"
      refine x_dec (fun q => absurd (show ("during" : Str) = "nearest" from q) (by decide +kernel)) (fun _ => ?_)
      walk_at "sts"
      refine x_eqZ ?_
      walk_at "sts"
      refine x_dec (fun _ => ?_) (fun q => absurd rfl q)
      walk_at "sts"
      refine x_rdlist (ts' := [("from" : Str), tI x, ("to" : Str), tI e]) (d := bx2D b) r1 (.inr ⟨rfl, b, o1.1, o1.2, rfl, rfl⟩) fun v2 H2 k2 r2 rv2 => ?_
      walk_at "sts"
      refine x_cut (fun σ' H' => σ' = [some (.ref p), some (.str "during"), none, some v2, none, none, none, some .non, none, none, none] ∧ H' = H2) ?_ ?_
      · walk_at "sts"
        refine x_eqZ ?_
        walk_at "sts"
        refine x_dec (fun q => absurd (show ("during" : Str) = "first" from q) (by decide +kernel)) (fun _ => ?_)
        walk_at "sts"
        exact ⟨rfl, rfl⟩
      rintro σ' H' ⟨rfl, rfl⟩
      walk_at "sts"
      refine x_lafter r2 (wdy_of (by decide +kernel)) o2 fun H3 k3 r3 => ?_
      walk_at "sts"
      refine x_lafter r3 (wdy_of (by decide +kernel)) o3 fun H4 k4 r4 => ?_
      walk_at "sts"
      refine x_eqZ ?_
      walk_at "sts"
      refine x_dec (fun _ => ?_) (fun q => absurd rfl q)
      walk_at "sts"
      refine x_mkT (ex := [p]) (ds := [.str "during", bx2D b, .int x, .int e]) (Rps.cons (.str _) (Rps.cons ((rv2.kp k3).kp k4) (Rps.cons (.int _) (Rps.cons (.int _) Rps.nil)))) r4.live (Nat.le_of_ble_eq_true rfl) fun u H5 s5 ru => ?_
      exact k u H5 ((((k1.trans k2).trans k3).trans k4).same s5) (r4.same s5) ru
    | fst b sp x y =>
      obtain ⟨o1, o2, o3, o4⟩ := o
      refine x_eqZ ?_
      walk_at "sts"
      refine x_dec (fun q => absurd (show ("first" : Str) = "drop" from q) (by decide +kernel)) (fun _ => ?_)
      walk_at "sts"
      refine x_eqZ ?_
      walk_at "sts"
      refine x_dec (fun q => absurd (show ("first" : Str) = "skyline" from q) (by decide +kernel)) (fun _ => ?_)
      walk_at "sts"
      refine x_eqZ ?_
      walk_at "sts"
      refine x_dec (fun q => absurd (show ("first" : Str) = "put" from q) (by decide +kernel)) (fun _ => ?_)
      walk_at "sts"
      refine x_eqZ ?_
      walk_at "sts"
      refine x_dec (fun q => absurd (show ("first" : Str) = "turn" from q) (by decide +kernel)) (fun _ => ?_)
      walk_at "sts"
      refine x_eqZ ?_
      walk_at "sts"
      refine x_dec (fun q => absurd (show ("first" : Str) = "select" from q) (by decide +kernel)) (fun _ => ?_)
      walk_at "sts"
      refine x_eqZ ?_
      walk_at "sts"
      refine x_dec (fun q => absurd (show ("first" : Str) = "count" from q) (by decide +kernel)) (fun _ => ?_)
      walk_at "sts"
      refine x_eqZ ?_
      walk_at "sts"
      refine x_dec (fun q => absurd (show ("first" : Str) = "nearest" from q) (by decide +kernel)) (fun _ => ?_)
      walk_at "sts"
      refine x_eqZ ?_
      walk_at "sts"
      refine x_dec (fun q => absurd (show ("first" : Str) = "during" from q) (by decide +kernel)) (fun _ => ?_)
      walk_at "sts"
      refine x_eqZ ?_
      walk_at "sts"
      refine x_dec (fun _ => ?_) (fun q => absurd rfl q)
      walk_at "sts"
      refine x_rdlist (ts' := spK (rsT b sp) ++ [("from" : Str), tI x, ("to" : Str), tI y]) (d := bx2D b) r1 (.inr ⟨rfl, b, o1.1, o1.2, rfl, rfl⟩) fun v2 H2 k2 r2 rv2 => ?_
      walk_at "sts"
      refine x_cut (fun σ' H' => ∃ v7 x10, σ' = [some (.ref p), some (.str "first"), none, some v2, none, none, none, some v7, none, none, x10] ∧ Kp [p] H2 H' ∧ Lr ex H' p [("from" : Str), tI x, ("to" : Str), tI y] ∧ Rp [p] H' v7 (is2D sp)) ?_ ?_
      · walk_at "sts"
        refine x_eqZ ?_
        walk_at "sts"
        refine x_dec (fun _ => ?_) (fun q => absurd rfl q)
        walk_at "sts"
        obtain ⟨a1, xs, rfl, na, ea, ra⟩ := id rv2.tupI
        have lx : xs.length = b.length := by rw [ra.1, List.length_map]
        have lb := o1.1.1
        refine x_lcS (.inl ea) (fun D i H' => Same H2 H' ∧ H2 D = none ∧ H' D = some (.lst ((List.replicate i (0 : Int)).map V.int))) ?_ ?_ ?_ ?_
        · exact fun D hD => ⟨Same.new (Same.refl _) hD, hD, upd_same⟩
        · exact fun D i H2 z => z.1
        · rintro D i x5 H' hx ⟨s2, hD, hy⟩
          have hi : i < xs.length := (List.getElem?_eq_some_iff.mp hx).1
          walk_at "sts"
          refine ⟨rfl, ?_⟩
          walk_at "sts"
          refine ⟨_, hy, szl (by simp; omega), Same.own s2 hD, hD, ?_⟩
          have e : (List.replicate (i + 1) (0 : Int)).map V.int = (List.replicate i (0 : Int)).map V.int ++ [V.int 0] := by
            rw [List.replicate_succ', List.map_append]
            rfl
          rw [e]
          exact upd_same
        · rintro D H3 ⟨s2, hD, hy⟩
          rw [lx] at hy
          walk_at "sts"
          refine x_tupL (SqL.of hy) fun l hl => ?_
          have s3 := Same.new (o := .tup ((List.replicate b.length (0 : Int)).map V.int)) (Same.refl H3) hl
          have r3 := (r2.same s2).same s3
          have hlp : l ∉ [p] := not1' (Ne.symm ((r2.same s2).ne hl))
          have rz : Rp [p] (upd H3 l (.tup ((List.replicate b.length (0 : Int)).map V.int))) (.ref l) (is2D (List.replicate b.length 0)) := rps_tup (rps_ints _) hlp upd_same
          have k3 : Kp [p] H2 (upd H3 l (.tup ((List.replicate b.length (0 : Int)).map V.int))) := (Same.kp s2).same s3
          generalize upd H3 l (.tup ((List.replicate b.length (0 : Int)).map V.int)) = H4 at r3 rz k3 ⊢
          walk_at "sts"
          unfold rsT at r3
          by_cases c : List.replicate b.length 0 = sp
          · rw [if_pos c] at r3
            refine x_lspN r3 (show ¬ (("from" : Str) = "speed") by decide +kernel) ?_
            walk_at "sts"
            rw [c] at rz
            exact ⟨_, _, rfl, k3, r3, rz⟩
          · rw [if_neg c] at r3
            refine x_lspY (ts' := [("from" : Str), tI x, ("to" : Str), tI y]) (d := is2D sp) r3 ⟨sp, o2.1, o2.2, rfl, rfl⟩ fun v5 H5 k5 r5 rv5 => ?_
            walk_at "sts"
            exact ⟨_, _, rfl, k3.trans k5, r5, rv5⟩
      rintro σ' H3 ⟨v7, x10, rfl, k3, r3, rv3⟩
      have rb3 := rv2.kp k3
      walk_at "sts"
      refine x_lafter r3 (wdy_of (by decide +kernel)) o3 fun H4 k4 r4 => ?_
      walk_at "sts"
      refine x_lafter r4 (wdy_of (by decide +kernel)) o4 fun H5 k5 r5 => ?_
      walk_at "sts"
      refine x_eqZ ?_
      walk_at "sts"
      refine x_dec (fun q => absurd (show ("first" : Str) = "during" from q) (by decide +kernel)) (fun _ => ?_)
      walk_at "sts"
      refine x_mkT (ex := [p]) (ds := [.str "first", bx2D b, is2D sp, .int x, .int y]) (Rps.cons (.str _) (Rps.cons ((rb3.kp k4).kp k5) (Rps.cons ((rv3.kp k4).kp k5) (Rps.cons (.int _) (Rps.cons (.int _) Rps.nil))))) r5.live (Nat.le_of_ble_eq_true rfl) fun u H6 s6 ru => ?_
      exact k u H6 (((((k1.trans k2).trans k3).trans k4).trans k5).same s6) (r5.same s6) ru
    | one w' =>
      rcases o with rfl | rfl
      · skip
        refine x_eqZ ?_
        walk_at "sts"
        refine x_dec (fun q => absurd (show ("commit" : Str) = "drop" from q) (by decide +kernel)) (fun _ => ?_)
        walk_at "sts"
        refine x_eqZ ?_
        walk_at "sts"
        refine x_dec (fun q => absurd (show ("commit" : Str) = "skyline" from q) (by decide +kernel)) (fun _ => ?_)
        walk_at "sts"
        refine x_eqZ ?_
        walk_at "sts"
        refine x_dec (fun q => absurd (show ("commit" : Str) = "put" from q) (by decide +kernel)) (fun _ => ?_)
        walk_at "sts"
        refine x_eqZ ?_
        walk_at "sts"
        refine x_dec (fun q => absurd (show ("commit" : Str) = "turn" from q) (by decide +kernel)) (fun _ => ?_)
        walk_at "sts"
        refine x_eqZ ?_
        walk_at "sts"
        refine x_dec (fun q => absurd (show ("commit" : Str) = "select" from q) (by decide +kernel)) (fun _ => ?_)
        walk_at "sts"
        refine x_eqZ ?_
        walk_at "sts"
        refine x_dec (fun q => absurd (show ("commit" : Str) = "count" from q) (by decide +kernel)) (fun _ => ?_)
        walk_at "sts"
        refine x_eqZ ?_
        walk_at "sts"
        refine x_dec (fun q => absurd (show ("commit" : Str) = "nearest" from q) (by decide +kernel)) (fun _ => ?_)
        walk_at "sts"
        refine x_eqZ ?_
        walk_at "sts"
        refine x_dec (fun q => absurd (show ("commit" : Str) = "during" from q) (by decide +kernel)) (fun _ => ?_)
        walk_at "sts"
        refine x_eqZ ?_
        walk_at "sts"
        refine x_dec (fun q => absurd (show ("commit" : Str) = "first" from q) (by decide +kernel)) (fun _ => ?_)
        walk_at "sts"
        refine x_cut (fun σ' H' => σ' = [some (.ref p), some (.str "commit"), none, none, none, none, none, none, none, none, none] ∧ H' = H1) ?_ ?_
        · walk_at "sts"
          refine x_neS ?_
          rw [show decide ((Stm.one "commit").wd = ("commit" : Str)) = true from decide_eq_true rfl]
          walk_at "sts"
          exact ⟨rfl, rfl⟩
        rintro σ' H' ⟨rfl, rfl⟩
        walk_at "sts"
        refine x_mkT (ex := [p]) (ds := [.str "commit"]) (Rps.cons (.str _) Rps.nil) r1.live (Nat.le_of_ble_eq_true rfl) fun u H2 s2 ru => ?_
        exact k u H2 (k1.same s2) (r1.same s2) ru
      · skip
        refine x_eqZ ?_
        walk_at "sts"
        refine x_dec (fun q => absurd (show ("rollback" : Str) = "drop" from q) (by decide +kernel)) (fun _ => ?_)
        walk_at "sts"
        refine x_eqZ ?_
        walk_at "sts"
        refine x_dec (fun q => absurd (show ("rollback" : Str) = "skyline" from q) (by decide +kernel)) (fun _ => ?_)
        walk_at "sts"
        refine x_eqZ ?_
        walk_at "sts"
        refine x_dec (fun q => absurd (show ("rollback" : Str) = "put" from q) (by decide +kernel)) (fun _ => ?_)
        walk_at "sts"
        refine x_eqZ ?_
        walk_at "sts"
        refine x_dec (fun q => absurd (show ("rollback" : Str) = "turn" from q) (by decide +kernel)) (fun _ => ?_)
        walk_at "sts"
        refine x_eqZ ?_
        walk_at "sts"
        refine x_dec (fun q => absurd (show ("rollback" : Str) = "select" from q) (by decide +kernel)) (fun _ => ?_)
        walk_at "sts"
        refine x_eqZ ?_
        walk_at "sts"
        refine x_dec (fun q => absurd (show ("rollback" : Str) = "count" from q) (by decide +kernel)) (fun _ => ?_)
        walk_at "sts"
        refine x_eqZ ?_
        walk_at "sts"
        refine x_dec (fun q => absurd (show ("rollback" : Str) = "nearest" from q) (by decide +kernel)) (fun _ => ?_)
        walk_at "sts"
        refine x_eqZ ?_
        walk_at "sts"
        refine x_dec (fun q => absurd (show ("rollback" : Str) = "during" from q) (by decide +kernel)) (fun _ => ?_)
        walk_at "sts"
        refine x_eqZ ?_
        walk_at "sts"
        refine x_dec (fun q => absurd (show ("rollback" : Str) = "first" from q) (by decide +kernel)) (fun _ => ?_)
        walk_at "sts"
        refine x_cut (fun σ' H' => σ' = [some (.ref p), some (.str "rollback"), none, none, none, none, none, none, none, none, none] ∧ H' = H1) ?_ ?_
        · walk_at "sts"
          refine x_neS ?_
          rw [show decide ((Stm.one "rollback").wd = ("commit" : Str)) = false from decide_eq_false (show ¬ (("rollback" : Str) = "commit") by decide +kernel)]
          walk_at "sts"
          refine x_neS ?_
          rw [show decide ((Stm.one "rollback").wd = ("rollback" : Str)) = true from decide_eq_true rfl]
          walk_at "sts"
          exact ⟨rfl, rfl⟩
        rintro σ' H' ⟨rfl, rfl⟩
        walk_at "sts"
        refine x_mkT (ex := [p]) (ds := [.str "rollback"]) (Rps.cons (.str _) Rps.nil) r1.live (Nat.le_of_ble_eq_true rfl) fun u H2 s2 ru => ?_
        exact k u H2 (k1.same s2) (r1.same s2) ru
def sp__law_parsed : Sp := fun vs H Q _ => ∃ (ex : List Addr) (z : Str) (s : Stm), vs = [.str z] ∧ Live ex H ∧ z.length ≤ 98000 ∧ s.Ok ∧ Toks z (runE 32 32 z.cps.toList 0) (s.wd :: s.tk) ∧ (∀ t, t ∈ s.wd :: s.tk → ∃ k, Tk t k) ∧ (s.wd :: s.tk).length ≤ 90000 ∧ ∀ v H', Same H H' → Rp [] H' v s.da → Q v H'
theorem x_lparsed {ex : List Addr} {z : Str} {s : Stm} {H : Hp} {Q : VK} {E : XK} (l : Live ex H) (hz : z.length ≤ 98000) (o : s.Ok) (t : Toks z (runE 32 32 z.cps.toList 0) (s.wd :: s.tk)) (hk : ∀ t, t ∈ s.wd :: s.tk → ∃ k, Tk t k) (hl : (s.wd :: s.tk).length ≤ 90000) (q : ∀ v H', Same H H' → Rp [] H' v s.da → Q v H') : sp__law_parsed [.str z] H Q E := ⟨ex, z, s, rfl, l, hz, o, t, hk, hl, q⟩
theorem same_own {H H1 H2 H3 : Hp} {p : Addr} (s1 : Same H H1) (z : H1 p = none) (s2 : Same H1 H2) (k : Kp [p] H2 H3) : Same H H3 := fun a w e => k _ _ (not1' (fun q => by have := s1 _ _ e; rw [q, z] at this; cases this)) (s2 _ _ (s1 _ _ e))
theorem ok__law_parsed {f : Addr} {fd : FuncData} (F : Fun K "_law_parsed" "_law_parsed" s__law_parsed f fd) (T : Txt K mg w D_READERS D_WORDS V_read_box V_read_condition V_read_conditional V_read_drop V_read_during V_read_first V_read_list V_read_nearest V_read_nothing V_read_number V_read_pair V_read_put V_read_skyline V_read_turn C_Reader tk_ALL tk_MOST_DIGITS) (O__law_expect : Ok P w K mg base 1 "_law_expect" ["state", "kind", "word"] (sp__law_expect)) (O__law_read : Ok P w K mg base 4 "_law_read" ["state"] (sp__law_read)) (O__law_tokens : Ok P w K mg base 2 "_law_tokens" ["text"] (sp__law_tokens)) : FnOk P w K mg base CX0 5 f fd ["text"] sp__law_parsed := by
  refine F.ok sc__law_parsed (fun vs H Q E h => ?_) (fun cdv A outer s H vs Q E hr h => ?_)
  · obtain ⟨ex, z, s, rfl, _⟩ := h
    rfl
  · obtain ⟨ex, z, st, rfl, Lv, hz, o, ht, hk, hl, k⟩ := h
    refine ⟨_, d__law_parsed hr T O__law_expect O__law_read O__law_tokens, ?_⟩
    unfold t__law_parsed
    refine x_start (σ' := [some (.str z), none, none]) rfl ?_
    walk_at "sts"
    refine x_ltokens Lv (by omega) ht hk fun v1 H1 L s1 te rl => ?_
    walk_at "sts"
    refine x_mklN (m := 3) rfl (by decide) fun p H2 s2 z2 e2 => ?_
    have R2 : Lr ex H2 p (st.wd :: st.tk) := ⟨z, v1, L, 0, e2, (rl.grow z2).same s2, Nat.zero_le _, by rw [List.drop_zero]; exact te.1, te.2, by rw [← tes_len te]; exact hl⟩
    walk_at "sts"
    refine ⟨ex, p, st, rfl, R2, o, fun v3 H3 k3 r3 rv => ?_⟩
    walk_at "sts"
    refine x_expE r3 ?_
    obtain ⟨vt, j, ds, hp3, _⟩ := r3.row
    walk_at "sts"
    refine x_ixL hp3 (v := .non) rfl ?_
    walk_at "sts"
    rw [decide_eq_true rfl]
    walk_at "sts"
    exact k _ _ (same_own s1 z2 s2 k3) rv.tail


/-! ### the law -/
theorem x_numbers {a : Addr} {ns : List Int} {H : Hp} {Q : VK} {E : XK} (h : SqL K H a (ns.map V.int)) (hl : ns.length ≤ 63) (q : ∀ p H' (rs : List Int), Same H H' → H p = none → H' p = some (.lst (rs.map V.int)) → rs ≠ [] → rs.length ≤ 4000 → Q (.ref p) H') : sp__law_numbers K [.ref a] H Q E := ⟨a, ns, rfl, h, hl, q⟩
theorem wd_start {H : Hp} {row sp : Addr} {rs : List Int} (h1 : H row = some (.lst (rs.map V.int))) (h2 : H sp = none) (h3 : rs ≠ []) (h4 : rs.length ≤ 4000) : Wd (upd H sp (.lst [.int 0])) row sp :=
  ⟨⟨0, rs, Int.le_refl 0, upd_same, upd_get h2 h1, h3, h4⟩, Ne.symm (new_ne h2 h1)⟩


/-! ### tokens of a statement: their kinds, how many -/
def Atk (ts : List Str) : Prop := ∀ t, t ∈ ts → ∃ k, Tk t k
theorem Atk.nil : Atk [] := fun _ h => nomatch h
theorem Atk.cons {t k : Str} {ts : List Str} (h : Tk t k) (r : Atk ts) : Atk (t :: ts) := fun x hx => by
  rcases List.mem_cons.mp hx with rfl | hx
  · exact ⟨k, h⟩
  · exact r x hx
theorem Atk.app {ts us : List Str} (h : Atk ts) (r : Atk us) : Atk (ts ++ us) := fun x hx => (List.mem_append.mp hx).elim (h x) (r x)
theorem atk_pr {q : Int × Int} (h : Sm q.1 ∧ Sm q.2) : Atk (prK q) := by
  unfold prK
  split
  · exact .cons (tk_num h.1) .nil
  · exact .cons (tk_num h.1) (.cons (tk_sign sg4.2.2) (.cons (tk_num h.2) .nil))
theorem atk_tl {α : Type} {k : α → List Str} : ∀ xs : List α, (∀ x, x ∈ xs → Atk (k x)) → Atk (tlK k xs)
  | [], _ => .cons (tk_sign sg4.1.2) .nil
  | x :: xs, h => .cons (tk_sign sg4.2.1) (.app (h x (by simp)) (atk_tl xs fun y hy => h y (List.mem_cons_of_mem _ hy)))
theorem atk_ser {α : Type} {k : α → List Str} : ∀ xs : List α, (∀ x, x ∈ xs → Atk (k x)) → Atk (serK k xs)
  | [], _ => .nil
  | x :: xs, h => .cons (tk_sign sg4.1.1) (.app (h x (by simp)) (atk_tl xs fun y hy => h y (List.mem_cons_of_mem _ hy)))
theorem atk_box {b : Bx97} (h : Bok b) : Atk (serK prK b) := atk_ser b fun q hq => atk_pr (h.2 q hq)
theorem atk_ints {ns : List Int} (h : Nok ns) : Atk (serI ns) := atk_ser ns fun i hi => .cons (tk_num (h.2 i hi)) .nil
theorem atk_sp {s : Option (List Int)} (h : ∀ ns, s = some ns → Nok ns ∧ 0 < ns.length) : Atk (spK s) := by
  cases s with
  | none => exact .nil
  | some ns => exact .cons (tk_word (wdy_of (by decide +kernel))) (atk_ints (h ns rfl).1)
theorem atk_csT : ∀ cs : List (Str × Bx97), (∀ c, c ∈ cs → c.1 ∈ wds ∧ Bok c.2 ∧ 0 < c.2.length) → Atk (csT cs)
  | [], _ => .nil
  | c :: cs, h => .cons (tk_word (wdy_of (by decide +kernel))) (.app (.cons (tk_word (wdy_wds (h c (by simp)).1)) (atk_box (h c (by simp)).2.1)) (atk_csT cs fun x hx => h x (List.mem_cons_of_mem _ hx)))
theorem atk_csK : ∀ cs : List (Str × Bx97), (∀ c, c ∈ cs → c.1 ∈ wds ∧ Bok c.2 ∧ 0 < c.2.length) → Atk (csK cs)
  | [], _ => .cons (tk_word (wdy_of (by decide +kernel))) .nil
  | c :: cs, h => .app (.cons (tk_word (wdy_wds (h c (by simp)).1)) (atk_box (h c (by simp)).2.1)) (atk_csT cs fun x hx => h x (List.mem_cons_of_mem _ hx))
theorem wdk {w : Str} (h : (decide (w.cps.toList ≠ []) && w.cps.toList.all (inB 97 122)) = true) : Tk w "word" := tk_word (wdy_of h)
theorem atk_all {s : Stm} (o : s.Ok) : Atk (s.wd :: s.tk) := by
  refine .cons (tk_word (wdy_wd o)) ?_
  cases s with
  | put k b s => exact .cons (tk_num o.1) (.app (atk_box o.2.1.1) (atk_sp o.2.2))
  | drop k => exact .cons (tk_num o) .nil
  | turn k t s => exact .cons (tk_num o.1) (.cons (wdk (by decide +kernel)) (.cons (tk_num o.2.1) (.cons (wdk (by decide +kernel)) (atk_ints o.2.2.1))))
  | cond w cs t => exact .app (atk_csK cs o.2.1.2) (.cons (wdk (by decide +kernel)) (.cons (tk_num o.2.2) .nil))
  | near m b t => exact .cons (tk_num o.1) (.cons (wdk (by decide +kernel)) (.app (atk_box o.2.1.1) (.cons (wdk (by decide +kernel)) (.cons (tk_num o.2.2) .nil))))
  | sky t => exact .cons (wdk (by decide +kernel)) (.cons (tk_num o) .nil)
  | dur b x e => exact .app (atk_box o.1.1) (.cons (wdk (by decide +kernel)) (.cons (tk_num o.2.1) (.cons (wdk (by decide +kernel)) (.cons (tk_num o.2.2) .nil))))
  | fst b s x y => exact .app (atk_box o.1.1) (.app (atk_sp (rsT_ok o.2.1)) (.cons (wdk (by decide +kernel)) (.cons (tk_num o.2.2.1) (.cons (wdk (by decide +kernel)) (.cons (tk_num o.2.2.2) .nil)))))
  | one w => exact .nil
theorem tlK_le {α : Type} {k : α → List Str} (h : ∀ x, (k x).length ≤ 3) : ∀ xs : List α, (tlK k xs).length ≤ 4 * xs.length + 1
  | [] => Nat.le_refl 1
  | x :: xs => by
    have := tlK_le h xs
    have := h x
    show (k x ++ tlK k xs).length + 1 ≤ 4 * (xs.length + 1) + 1
    rw [List.length_append]
    omega
theorem ser_le {α : Type} {k : α → List Str} (h : ∀ x, (k x).length ≤ 3) : ∀ xs : List α, (serK k xs).length ≤ 4 * xs.length + 1
  | [] => Nat.zero_le _
  | x :: xs => by
    have := tlK_le h xs
    have := h x
    show (k x ++ tlK k xs).length + 1 ≤ 4 * (xs.length + 1) + 1
    rw [List.length_append]
    omega
theorem prK_le (q : Int × Int) : (prK q).length ≤ 3 := by
  unfold prK
  split
  · exact Nat.le_of_ble_eq_true rfl
  · exact Nat.le_refl 3
theorem box_le {b : Bx97} (h : Bok b) : (serK prK b).length ≤ 401 := by
  have := ser_le prK_le b
  have := h.1
  omega
theorem ints_le {ns : List Int} (h : Nok ns) : (serI ns).length ≤ 401 := by
  have := ser_le (k := fun i => [tI i]) (fun _ => Nat.le_of_ble_eq_true rfl) ns
  have := h.1
  unfold serI
  omega
theorem sp_le {s : Option (List Int)} (h : ∀ ns, s = some ns → Nok ns ∧ 0 < ns.length) : (spK s).length ≤ 402 := by
  cases s with
  | none => exact Nat.zero_le _
  | some ns =>
    have := ints_le (h ns rfl).1
    show (serI ns).length + 1 ≤ 402
    omega
theorem csT_le : ∀ cs : List (Str × Bx97), (∀ c, c ∈ cs → Bok c.2) → (csT cs).length ≤ 403 * cs.length
  | [], _ => Nat.zero_le _
  | c :: cs, h => by
    have := csT_le cs fun x hx => h x (List.mem_cons_of_mem _ hx)
    have := box_le (h c (by simp))
    show (cdK c ++ csT cs).length + 1 ≤ 403 * (cs.length + 1)
    rw [List.length_append]
    show (serK prK c.2).length + 1 + _ + 1 ≤ _
    omega
theorem csK_le {cs : List (Str × Bx97)} (h : CsOk cs) : (csK cs).length ≤ 8061 := by
  match cs, h with
  | [], _ => exact Nat.le_of_ble_eq_true rfl
  | c :: cs, h =>
    have := csT_le cs fun x hx => (h.2 x (List.mem_cons_of_mem _ hx)).2.1
    have := box_le (h.2 c (by simp)).2.1
    have hl := h.1
    rw [List.length_cons] at hl
    show (cdK c ++ csT cs).length ≤ _
    rw [List.length_append]
    show (serK prK c.2).length + 1 + _ ≤ _
    omega
theorem tk_le {s : Stm} (o : s.Ok) : (s.wd :: s.tk).length ≤ 8300 := by
  rw [List.length_cons]
  cases s with
  | put k b s =>
    have := box_le o.2.1.1
    have := sp_le o.2.2
    show (tI k :: (serK prK b ++ spK s)).length + 1 ≤ _
    rw [List.length_cons, List.length_append]
    omega
  | drop k => exact Nat.le_of_ble_eq_true rfl
  | turn k t s =>
    have := ints_le o.2.2.1
    show ((serI s).length + 1 + 1 + 1 + 1) + 1 ≤ _
    omega
  | cond w cs t =>
    have := csK_le o.2.1
    show (csK cs ++ [("at" : Str), tI t]).length + 1 ≤ _
    rw [List.length_append]
    show _ + 2 + 1 ≤ _
    omega
  | near m b t =>
    have := box_le o.2.1.1
    show ((serK prK b ++ [("at" : Str), tI t]).length + 1 + 1) + 1 ≤ _
    rw [List.length_append]
    show (_ + 2 + 1 + 1) + 1 ≤ _
    omega
  | sky t => exact Nat.le_of_ble_eq_true rfl
  | dur b x e =>
    have := box_le o.1.1
    show (serK prK b ++ [("from" : Str), tI x, ("to" : Str), tI e]).length + 1 ≤ _
    rw [List.length_append]
    show _ + 4 + 1 ≤ _
    omega
  | fst b s x y =>
    have := box_le o.1.1
    have := sp_le (rsT_ok (b := b) o.2.1)
    show (serK prK b ++ (spK (rsT b s) ++ [("from" : Str), tI x, ("to" : Str), tI y])).length + 1 ≤ _
    rw [List.length_append, List.length_append]
    show _ + (_ + 4) + 1 ≤ _
    omega
  | one w => exact Nat.le_of_ble_eq_true rfl
theorem gl_lenS {l : List Nat} {ts : List Str} (h : Gl l ts) : lenS ts ≤ l.length := by
  induction h with
  | nil => exact Nat.zero_le _
  | sp h ih => exact Nat.le_trans ih (Nat.le_succ _)
  | @tok t l ts k h ih =>
    rw [List.length_append, z_len]
    show t.length + lenS ts ≤ _
    omega
theorem text_80 {s : Stm} (h : s.Ok) : s.text.length ≤ 80020 := by
  have t := told_len h
  have e := len2.1
  have z := len1.2.2.2.2
  have w : s.wd.length ≤ 8 := (wdy_kys _ (wd_ky h)).2
  have k : (((Str.empty ++ s.wd) ++ " ") ++ s.told).length ≤ 80020 := by
    rw [len_addS, len_addS, len_addS, e, z]
    omega
  cases s with
  | one w' => have : w'.length ≤ 8 := w; show w'.length ≤ _; omega
  | _ => exact k
theorem lenS_80 {s : Stm} (h : s.Ok) : lenS (s.wd :: s.tk) ≤ 80020 := by
  have g := pc_text h [] [] .nil fun _ c cs e => nomatch e
  rw [List.append_nil, List.append_nil] at g
  have := gl_lenS g
  rw [z_len] at this
  have := text_80 h
  omega
theorem sp3 : ("   " : Str).cps.toList = List.replicate 3 32 := by decide +kernel
theorem toks_out {s : Stm} (h : s.Ok) (n : Nat) : Toks (("   " ++ s.text) ++ repS " " n) (runE 32 32 (("   " ++ s.text) ++ repS " " n).cps.toList 0) (s.wd :: s.tk) := by
  have g0 := gl_rep .nil n
  rw [List.append_nil] at g0
  have g := pc_text h (List.replicate n 32) [] g0 fun _ c cs e => by
    have : c ∈ List.replicate n 32 := by rw [e]; simp
    exact .inl (List.eq_of_mem_replicate this)
  rw [List.append_nil] at g
  have g3 := gl_rep g 3
  refine gl_toks g3 [] ?_
  rw [List.nil_append, tl_app, tl_app, sp3, repS_sp, List.append_assoc]
def sp_law (K : PySem.W.Frag) : Sp := fun vs H Q _ => ∃ (a : Addr) (ns : List Int), vs = [.ref a] ∧ SqL K H a (ns.map V.int) ∧ ns.length ≤ 63 ∧ ∀ H', Q (.bl true) H'
set_option maxHeartbeats 4000000 in
theorem ok_law {f : Addr} {fd : FuncData} (F : Fun K "law" "law" s_law f fd) (T : Txt K mg w D_READERS D_WORDS V_read_box V_read_condition V_read_conditional V_read_drop V_read_during V_read_first V_read_list V_read_nearest V_read_nothing V_read_number V_read_pair V_read_put V_read_skyline V_read_turn C_Reader tk_ALL tk_MOST_DIGITS) (O__law_numbers : Ok P w K mg base 1 "_law_numbers" ["script"] (sp__law_numbers K)) (O__law_parsed : Ok P w K mg base 5 "_law_parsed" ["text"] (sp__law_parsed)) (O__law_print : Ok P w K mg base 3 "_law_print" ["told"] (sp__law_print)) (O__law_so : Ok P w K mg base 6 "_law_so" ["found", "meant"] (sp__law_so 6)) (O__law_spaced : Ok P w K mg base 3 "_law_spaced" ["row", "spot", "text"] (sp__law_spaced)) (O__law_statement : Ok P w K mg base 6 "_law_statement" ["row", "spot"] (sp__law_statement)) (O__law_take : Ok P w K mg base 2 "_law_take" ["row", "spot", "limit"] (sp__law_take)) (O_parse : Ok P w K mg base 12 "parse" ["text"] (sp_parse)) : FnOk P w K mg base CX0 13 f fd ["script"] (sp_law K) := by
  refine F.ok sc_law (fun vs H Q E h => ?_) (fun cdv A outer s H vs Q E hr h => ?_)
  · obtain ⟨a, ns, rfl, _⟩ := h
    rfl
  · obtain ⟨a, ns, rfl, ha, hl, k⟩ := h
    refine ⟨_, d_law hr T O__law_numbers O__law_parsed O__law_print O__law_so O__law_spaced O__law_statement O__law_take O_parse, ?_⟩
    unfold t_law
    refine x_start (σ' := [some (.ref a), none, none, none, none, none]) rfl ?_
    walk_at "sts"
    refine x_numbers ha hl fun row H1 rs s1 _ hrow hne hle => ?_
    walk_at "sts"
    refine x_mkl (m := 1) rfl (by decide) fun sp hs => ?_
    have W0 := wd_start hrow hs hne hle
    walk_at "sts"
    refine x_rng 4 (by decide) rfl ?_
    refine x_loopR (fun i σ H' => ∃ (x3 x4 x5 : Option V), σ = [some (.ref a), some (.ref row), some (.ref sp), x3, x4, x5] ∧ Wd H' row sp) ?_ ?_ ?_
    · exact ⟨_, _, _, rfl, W0⟩
    · clear W0 hs
      rintro i σ H' hi ⟨x3, x4, x5, rfl, W⟩
      walk_at "sts"
      refine x_statement W fun v H2 st k2 W2 rv o => ?_
      have b1 := tk_le o
      have b2 := lenS_80 o
      have b3 := text_80 o
      walk_at "sts"
      refine x_lprint rv o W2.live fun H3 s3 => ?_
      have W3 := W2.same s3
      walk_at "sts"
      refine ⟨row, sp, st.text, st.wd :: st.tk, rfl, W3, by omega, text_toks o, atk_all o, by omega, fun H4 u k4 W4 ul gl => ?_⟩
      have rv4 := (rv.same s3).kp k4
      have tu : Toks u (runE 32 32 u.cps.toList 0) (st.wd :: st.tk) := gl_toks gl [] rfl
      walk_at "sts"
      refine x_lparsed W4.live (by omega) o tu (atk_all o) (by omega) fun v5 H5 s5 r5 => ?_
      have W5 := W4.same s5
      have rv5 := rv4.same s5
      walk_at "sts"
      refine x_so (sp := []) r5 rv5.tail (st_dn o) ?_
      walk_at "sts"
      refine x_parse (by omega) o tu fun v6 H6 s6 r6 => ?_
      have W6 := W5.same s6
      have rv6 := rv5.same s6
      walk_at "sts"
      refine x_so (sp := []) r6 rv6.tail (st_dn o) ?_
      walk_at "sts"
      refine x_lprint rv6 o W6.live fun H7 s7 => ?_
      have W7 := W6.same s7
      have rv7 := rv6.same s7
      have e3 : ("   " : Str).length = 3 := by decide +kernel
      have e1 : (" " : Str).length = 1 := by decide +kernel
      walk_at "sts"
      refine x_addStr (Nat.le_trans (show _ ≤ 1000000 by rw [e3]; omega) (by decide)) ?_
      walk_at "sts"
      refine x_take W7 (by decide) fun g0 H8 a8 b8 k8 W8 => ?_
      obtain ⟨g, rfl⟩ : ∃ g : Nat, g0 = (g : Int) := ⟨g0.toNat, by omega⟩
      have rv8 := rv7.kp k8
      have lr : (repS " " g).length = g := by rw [repS_len, e1, Nat.mul_one]
      walk_at "sts"
      refine x_mulS0 (n := g) rfl (by omega) (by rw [e1]; omega) (by rw [e1]; omega) ?_
      refine x_addStr (Nat.le_trans (show _ ≤ 1000000 by rw [len_addS, lr, e3]; omega) (by decide)) ?_
      walk_at "sts"
      refine x_parse (by rw [len_addS, len_addS, lr, e3]; omega) o (toks_out o g) fun v9 H9 s9 r9 => ?_
      have W9 := W8.same s9
      walk_at "sts"
      refine x_so (sp := []) r9 (rv8.same s9).tail (st_dn o) ?_
      walk_at "sts"
      exact ⟨_, _, _, rfl, W9⟩
    · rintro σ H0 ⟨x3, x4, x5, rfl, W⟩
      walk_at "sts"
      exact k _

end
set_option maxHeartbeats 4000000 in
theorem all_mk {l : PySem.W.OpenLaw} {w : World} {K : PySem.W.Frag} {h : Heap} {mg : Str → Option Value} {fa : Addr} (X : K.In h) (G : h.Ns mainGlobals mg) (hfa : mg "law" = some (.ref fa))
    {f_run_end : Addr} {od_run_end an_run_end : Option Addr} {sl_run_end : Array (Option Value)} {oc_run_end kV_run_end dc_run_end pm_run_end cd_run_end ct_run_end : Value}
    {f_token_end : Addr} {od_token_end an_token_end : Option Addr} {sl_token_end : Array (Option Value)} {oc_token_end kV_token_end dc_token_end pm_token_end cd_token_end ct_token_end : Value}
    {f_is_number : Addr} {od_is_number an_is_number : Option Addr} {sl_is_number : Array (Option Value)} {oc_is_number kV_is_number dc_is_number pm_is_number cd_is_number ct_is_number : Value}
    {f_Reader____init__ : Addr} {od_Reader____init__ an_Reader____init__ : Option Addr} {sl_Reader____init__ : Array (Option Value)} {oc_Reader____init__ kV_Reader____init__ dc_Reader____init__ pm_Reader____init__ cd_Reader____init__ ct_Reader____init__ : Value}
    {f_Reader__due : Addr} {od_Reader__due an_Reader__due : Option Addr} {sl_Reader__due : Array (Option Value)} {oc_Reader__due kV_Reader__due dc_Reader__due pm_Reader__due cd_Reader__due ct_Reader__due : Value}
    {f_Reader__take : Addr} {od_Reader__take an_Reader__take : Option Addr} {sl_Reader__take : Array (Option Value)} {oc_Reader__take kV_Reader__take dc_Reader__take pm_Reader__take cd_Reader__take ct_Reader__take : Value}
    {f_Reader__take_number : Addr} {od_Reader__take_number an_Reader__take_number : Option Addr} {sl_Reader__take_number : Array (Option Value)} {oc_Reader__take_number kV_Reader__take_number dc_Reader__take_number pm_Reader__take_number cd_Reader__take_number ct_Reader__take_number : Value}
    {f_Reader__finish : Addr} {od_Reader__finish an_Reader__finish : Option Addr} {sl_Reader__finish : Array (Option Value)} {oc_Reader__finish kV_Reader__finish dc_Reader__finish pm_Reader__finish cd_Reader__finish ct_Reader__finish : Value}
    {f_Reader___pass : Addr} {od_Reader___pass an_Reader___pass : Option Addr} {sl_Reader___pass : Array (Option Value)} {oc_Reader___pass kV_Reader___pass dc_Reader___pass pm_Reader___pass cd_Reader___pass ct_Reader___pass : Value}
    {f_read_number : Addr} {od_read_number an_read_number : Option Addr} {sl_read_number : Array (Option Value)} {oc_read_number kV_read_number dc_read_number pm_read_number cd_read_number ct_read_number : Value}
    {f_read_pair : Addr} {od_read_pair an_read_pair : Option Addr} {sl_read_pair : Array (Option Value)} {oc_read_pair kV_read_pair dc_read_pair pm_read_pair cd_read_pair ct_read_pair : Value}
    {f_read_series : Addr} {od_read_series an_read_series : Option Addr} {sl_read_series : Array (Option Value)} {oc_read_series kV_read_series dc_read_series pm_read_series cd_read_series ct_read_series : Value}
    {f_read_list : Addr} {od_read_list an_read_list : Option Addr} {sl_read_list : Array (Option Value)} {oc_read_list kV_read_list dc_read_list pm_read_list cd_read_list ct_read_list : Value}
    {f_read_box : Addr} {od_read_box an_read_box : Option Addr} {sl_read_box : Array (Option Value)} {oc_read_box kV_read_box dc_read_box pm_read_box cd_read_box ct_read_box : Value}
    {f_read_after : Addr} {od_read_after an_read_after : Option Addr} {sl_read_after : Array (Option Value)} {oc_read_after kV_read_after dc_read_after pm_read_after cd_read_after ct_read_after : Value}
    {f_read_put : Addr} {od_read_put an_read_put : Option Addr} {sl_read_put : Array (Option Value)} {oc_read_put kV_read_put dc_read_put pm_read_put cd_read_put ct_read_put : Value}
    {f_read_drop : Addr} {od_read_drop an_read_drop : Option Addr} {sl_read_drop : Array (Option Value)} {oc_read_drop kV_read_drop dc_read_drop pm_read_drop cd_read_drop ct_read_drop : Value}
    {f_read_turn : Addr} {od_read_turn an_read_turn : Option Addr} {sl_read_turn : Array (Option Value)} {oc_read_turn kV_read_turn dc_read_turn pm_read_turn cd_read_turn ct_read_turn : Value}
    {f_read_condition : Addr} {od_read_condition an_read_condition : Option Addr} {sl_read_condition : Array (Option Value)} {oc_read_condition kV_read_condition dc_read_condition pm_read_condition cd_read_condition ct_read_condition : Value}
    {f_read_conditions : Addr} {od_read_conditions an_read_conditions : Option Addr} {sl_read_conditions : Array (Option Value)} {oc_read_conditions kV_read_conditions dc_read_conditions pm_read_conditions cd_read_conditions ct_read_conditions : Value}
    {f_read_conditional : Addr} {od_read_conditional an_read_conditional : Option Addr} {sl_read_conditional : Array (Option Value)} {oc_read_conditional kV_read_conditional dc_read_conditional pm_read_conditional cd_read_conditional ct_read_conditional : Value}
    {f_read_nearest : Addr} {od_read_nearest an_read_nearest : Option Addr} {sl_read_nearest : Array (Option Value)} {oc_read_nearest kV_read_nearest dc_read_nearest pm_read_nearest cd_read_nearest ct_read_nearest : Value}
    {f_read_skyline : Addr} {od_read_skyline an_read_skyline : Option Addr} {sl_read_skyline : Array (Option Value)} {oc_read_skyline kV_read_skyline dc_read_skyline pm_read_skyline cd_read_skyline ct_read_skyline : Value}
    {f_read_during : Addr} {od_read_during an_read_during : Option Addr} {sl_read_during : Array (Option Value)} {oc_read_during kV_read_during dc_read_during pm_read_during cd_read_during ct_read_during : Value}
    {f_read_first : Addr} {od_read_first an_read_first : Option Addr} {sl_read_first : Array (Option Value)} {oc_read_first kV_read_first dc_read_first pm_read_first cd_read_first ct_read_first : Value}
    {f_read_nothing : Addr} {od_read_nothing an_read_nothing : Option Addr} {sl_read_nothing : Array (Option Value)} {oc_read_nothing kV_read_nothing dc_read_nothing pm_read_nothing cd_read_nothing ct_read_nothing : Value}
    {f_parse : Addr} {od_parse an_parse : Option Addr} {sl_parse : Array (Option Value)} {oc_parse kV_parse dc_parse pm_parse cd_parse ct_parse : Value}
    {f__law_so : Addr} {od__law_so an__law_so : Option Addr} {sl__law_so : Array (Option Value)} {oc__law_so kV__law_so dc__law_so pm__law_so cd__law_so ct__law_so : Value}
    {f__law_numbers : Addr} {od__law_numbers an__law_numbers : Option Addr} {sl__law_numbers : Array (Option Value)} {oc__law_numbers kV__law_numbers dc__law_numbers pm__law_numbers cd__law_numbers ct__law_numbers : Value}
    {f__law_draw : Addr} {od__law_draw an__law_draw : Option Addr} {sl__law_draw : Array (Option Value)} {oc__law_draw kV__law_draw dc__law_draw pm__law_draw cd__law_draw ct__law_draw : Value}
    {f__law_take : Addr} {od__law_take an__law_take : Option Addr} {sl__law_take : Array (Option Value)} {oc__law_take kV__law_take dc__law_take pm__law_take cd__law_take ct__law_take : Value}
    {f__law_wide : Addr} {od__law_wide an__law_wide : Option Addr} {sl__law_wide : Array (Option Value)} {oc__law_wide kV__law_wide dc__law_wide pm__law_wide cd__law_wide ct__law_wide : Value}
    {f__law_figure : Addr} {od__law_figure an__law_figure : Option Addr} {sl__law_figure : Array (Option Value)} {oc__law_figure kV__law_figure dc__law_figure pm__law_figure cd__law_figure ct__law_figure : Value}
    {f__law_any_box : Addr} {od__law_any_box an__law_any_box : Option Addr} {sl__law_any_box : Array (Option Value)} {oc__law_any_box kV__law_any_box dc__law_any_box pm__law_any_box cd__law_any_box ct__law_any_box : Value}
    {f__law_any_list : Addr} {od__law_any_list an__law_any_list : Option Addr} {sl__law_any_list : Array (Option Value)} {oc__law_any_list kV__law_any_list dc__law_any_list pm__law_any_list cd__law_any_list ct__law_any_list : Value}
    {f__law_statement : Addr} {od__law_statement an__law_statement : Option Addr} {sl__law_statement : Array (Option Value)} {oc__law_statement kV__law_statement dc__law_statement pm__law_statement cd__law_statement ct__law_statement : Value}
    {f__law_box_text : Addr} {od__law_box_text an__law_box_text : Option Addr} {sl__law_box_text : Array (Option Value)} {oc__law_box_text kV__law_box_text dc__law_box_text pm__law_box_text cd__law_box_text ct__law_box_text : Value}
    {f__law_list_text : Addr} {od__law_list_text an__law_list_text : Option Addr} {sl__law_list_text : Array (Option Value)} {oc__law_list_text kV__law_list_text dc__law_list_text pm__law_list_text cd__law_list_text ct__law_list_text : Value}
    {f__law_wants_text : Addr} {od__law_wants_text an__law_wants_text : Option Addr} {sl__law_wants_text : Array (Option Value)} {oc__law_wants_text kV__law_wants_text dc__law_wants_text pm__law_wants_text cd__law_wants_text ct__law_wants_text : Value}
    {f__law_print : Addr} {od__law_print an__law_print : Option Addr} {sl__law_print : Array (Option Value)} {oc__law_print kV__law_print dc__law_print pm__law_print cd__law_print ct__law_print : Value}
    {f__law_run : Addr} {od__law_run an__law_run : Option Addr} {sl__law_run : Array (Option Value)} {oc__law_run kV__law_run dc__law_run pm__law_run cd__law_run ct__law_run : Value}
    {f__law_tokens : Addr} {od__law_tokens an__law_tokens : Option Addr} {sl__law_tokens : Array (Option Value)} {oc__law_tokens kV__law_tokens dc__law_tokens pm__law_tokens cd__law_tokens ct__law_tokens : Value}
    {f__law_expect : Addr} {od__law_expect an__law_expect : Option Addr} {sl__law_expect : Array (Option Value)} {oc__law_expect kV__law_expect dc__law_expect pm__law_expect cd__law_expect ct__law_expect : Value}
    {f__law_is_next : Addr} {od__law_is_next an__law_is_next : Option Addr} {sl__law_is_next : Array (Option Value)} {oc__law_is_next kV__law_is_next dc__law_is_next pm__law_is_next cd__law_is_next ct__law_is_next : Value}
    {f__law_read_list : Addr} {od__law_read_list an__law_read_list : Option Addr} {sl__law_read_list : Array (Option Value)} {oc__law_read_list kV__law_read_list dc__law_read_list pm__law_read_list cd__law_read_list ct__law_read_list : Value}
    {f__law_read_after : Addr} {od__law_read_after an__law_read_after : Option Addr} {sl__law_read_after : Array (Option Value)} {oc__law_read_after kV__law_read_after dc__law_read_after pm__law_read_after cd__law_read_after ct__law_read_after : Value}
    {f__law_read_speed : Addr} {od__law_read_speed an__law_read_speed : Option Addr} {sl__law_read_speed : Array (Option Value)} {oc__law_read_speed kV__law_read_speed dc__law_read_speed pm__law_read_speed cd__law_read_speed ct__law_read_speed : Value}
    {f__law_read_wants : Addr} {od__law_read_wants an__law_read_wants : Option Addr} {sl__law_read_wants : Array (Option Value)} {oc__law_read_wants kV__law_read_wants dc__law_read_wants pm__law_read_wants cd__law_read_wants ct__law_read_wants : Value}
    {f__law_read : Addr} {od__law_read an__law_read : Option Addr} {sl__law_read : Array (Option Value)} {oc__law_read kV__law_read dc__law_read pm__law_read cd__law_read ct__law_read : Value}
    {f__law_parsed : Addr} {od__law_parsed an__law_parsed : Option Addr} {sl__law_parsed : Array (Option Value)} {oc__law_parsed kV__law_parsed dc__law_parsed pm__law_parsed cd__law_parsed ct__law_parsed : Value}
    {f__law_spaced : Addr} {od__law_spaced an__law_spaced : Option Addr} {sl__law_spaced : Array (Option Value)} {oc__law_spaced kV__law_spaced dc__law_spaced pm__law_spaced cd__law_spaced ct__law_spaced : Value}
    {f_law : Addr} {od_law an_law : Option Addr} {sl_law : Array (Option Value)} {oc_law kV_law dc_law pm_law cd_law ct_law : Value}
    {tk_ALL : Tok}
    {tk_MOST_DIGITS : Tok}
    {D_READERS : Addr}
    {D_WORDS : Addr}
    {V_read_box : Addr}
    {V_read_condition : Addr}
    {V_read_conditional : Addr}
    {V_read_drop : Addr}
    {V_read_during : Addr}
    {V_read_first : Addr}
    {V_read_list : Addr}
    {V_read_nearest : Addr}
    {V_read_nothing : Addr}
    {V_read_number : Addr}
    {V_read_pair : Addr}
    {V_read_put : Addr}
    {V_read_skyline : Addr}
    {V_read_turn : Addr}
    {C_Reader : Addr}
    {es_READERS : Array DictEntry} {nn_READERS : Nat}
    {its_WORDS : Array Value} {nt_WORDS : Nat}
    (a_run_end : PySem.W.nsIn K mainGlobals "run_end" = some (some (.ref f_run_end))) (l_run_end : K.lookup f_run_end = some ⟨oc_run_end, od_run_end, .func (PySem.W.fnOf "run_end" "run_end" (defArgs s_run_end) (defBody s_run_end) (defScope s_run_end) .none kV_run_end dc_run_end pm_run_end an_run_end cd_run_end ct_run_end), sl_run_end⟩) (c_run_end : PySem.W.codeIn K cd_run_end "run_end" = true) (k_run_end : PySem.W.keepIn K (.ref f_run_end) = true)
    (a_token_end : PySem.W.nsIn K mainGlobals "token_end" = some (some (.ref f_token_end))) (l_token_end : K.lookup f_token_end = some ⟨oc_token_end, od_token_end, .func (PySem.W.fnOf "token_end" "token_end" (defArgs s_token_end) (defBody s_token_end) (defScope s_token_end) .none kV_token_end dc_token_end pm_token_end an_token_end cd_token_end ct_token_end), sl_token_end⟩) (c_token_end : PySem.W.codeIn K cd_token_end "token_end" = true) (k_token_end : PySem.W.keepIn K (.ref f_token_end) = true)
    (a_is_number : PySem.W.nsIn K mainGlobals "is_number" = some (some (.ref f_is_number))) (l_is_number : K.lookup f_is_number = some ⟨oc_is_number, od_is_number, .func (PySem.W.fnOf "is_number" "is_number" (defArgs s_is_number) (defBody s_is_number) (defScope s_is_number) .none kV_is_number dc_is_number pm_is_number an_is_number cd_is_number ct_is_number), sl_is_number⟩) (c_is_number : PySem.W.codeIn K cd_is_number "is_number" = true) (k_is_number : PySem.W.keepIn K (.ref f_is_number) = true)
    (ma_Reader____init__ : PySem.W.findIn K (.ref C_Reader) "__init__" = some (some (.ref f_Reader____init__))) (mf_Reader____init__ : PySem.W.isFn K (.ref f_Reader____init__) = true) (l_Reader____init__ : K.lookup f_Reader____init__ = some ⟨oc_Reader____init__, od_Reader____init__, .func (PySem.W.fnOf "__init__" "Reader.__init__" (defArgs s_Reader____init__) (defBody s_Reader____init__) (defScope s_Reader____init__) .none kV_Reader____init__ dc_Reader____init__ pm_Reader____init__ an_Reader____init__ cd_Reader____init__ ct_Reader____init__), sl_Reader____init__⟩) (c_Reader____init__ : PySem.W.codeIn K cd_Reader____init__ "Reader.__init__" = true) (k_Reader____init__ : PySem.W.keepIn K (.ref f_Reader____init__) = true)
    (ma_Reader__due : PySem.W.findIn K (.ref C_Reader) "due" = some (some (.ref f_Reader__due))) (mf_Reader__due : PySem.W.isFn K (.ref f_Reader__due) = true) (l_Reader__due : K.lookup f_Reader__due = some ⟨oc_Reader__due, od_Reader__due, .func (PySem.W.fnOf "due" "Reader.due" (defArgs s_Reader__due) (defBody s_Reader__due) (defScope s_Reader__due) .none kV_Reader__due dc_Reader__due pm_Reader__due an_Reader__due cd_Reader__due ct_Reader__due), sl_Reader__due⟩) (c_Reader__due : PySem.W.codeIn K cd_Reader__due "Reader.due" = true) (k_Reader__due : PySem.W.keepIn K (.ref f_Reader__due) = true)
    (ma_Reader__take : PySem.W.findIn K (.ref C_Reader) "take" = some (some (.ref f_Reader__take))) (mf_Reader__take : PySem.W.isFn K (.ref f_Reader__take) = true) (l_Reader__take : K.lookup f_Reader__take = some ⟨oc_Reader__take, od_Reader__take, .func (PySem.W.fnOf "take" "Reader.take" (defArgs s_Reader__take) (defBody s_Reader__take) (defScope s_Reader__take) .none kV_Reader__take dc_Reader__take pm_Reader__take an_Reader__take cd_Reader__take ct_Reader__take), sl_Reader__take⟩) (c_Reader__take : PySem.W.codeIn K cd_Reader__take "Reader.take" = true) (k_Reader__take : PySem.W.keepIn K (.ref f_Reader__take) = true)
    (ma_Reader__take_number : PySem.W.findIn K (.ref C_Reader) "take_number" = some (some (.ref f_Reader__take_number))) (mf_Reader__take_number : PySem.W.isFn K (.ref f_Reader__take_number) = true) (l_Reader__take_number : K.lookup f_Reader__take_number = some ⟨oc_Reader__take_number, od_Reader__take_number, .func (PySem.W.fnOf "take_number" "Reader.take_number" (defArgs s_Reader__take_number) (defBody s_Reader__take_number) (defScope s_Reader__take_number) .none kV_Reader__take_number dc_Reader__take_number pm_Reader__take_number an_Reader__take_number cd_Reader__take_number ct_Reader__take_number), sl_Reader__take_number⟩) (c_Reader__take_number : PySem.W.codeIn K cd_Reader__take_number "Reader.take_number" = true) (k_Reader__take_number : PySem.W.keepIn K (.ref f_Reader__take_number) = true)
    (ma_Reader__finish : PySem.W.findIn K (.ref C_Reader) "finish" = some (some (.ref f_Reader__finish))) (mf_Reader__finish : PySem.W.isFn K (.ref f_Reader__finish) = true) (l_Reader__finish : K.lookup f_Reader__finish = some ⟨oc_Reader__finish, od_Reader__finish, .func (PySem.W.fnOf "finish" "Reader.finish" (defArgs s_Reader__finish) (defBody s_Reader__finish) (defScope s_Reader__finish) .none kV_Reader__finish dc_Reader__finish pm_Reader__finish an_Reader__finish cd_Reader__finish ct_Reader__finish), sl_Reader__finish⟩) (c_Reader__finish : PySem.W.codeIn K cd_Reader__finish "Reader.finish" = true) (k_Reader__finish : PySem.W.keepIn K (.ref f_Reader__finish) = true)
    (ma_Reader___pass : PySem.W.findIn K (.ref C_Reader) "_pass" = some (some (.ref f_Reader___pass))) (mf_Reader___pass : PySem.W.isFn K (.ref f_Reader___pass) = true) (l_Reader___pass : K.lookup f_Reader___pass = some ⟨oc_Reader___pass, od_Reader___pass, .func (PySem.W.fnOf "_pass" "Reader._pass" (defArgs s_Reader___pass) (defBody s_Reader___pass) (defScope s_Reader___pass) .none kV_Reader___pass dc_Reader___pass pm_Reader___pass an_Reader___pass cd_Reader___pass ct_Reader___pass), sl_Reader___pass⟩) (c_Reader___pass : PySem.W.codeIn K cd_Reader___pass "Reader._pass" = true) (k_Reader___pass : PySem.W.keepIn K (.ref f_Reader___pass) = true)
    (a_read_number : PySem.W.nsIn K mainGlobals "read_number" = some (some (.ref f_read_number))) (l_read_number : K.lookup f_read_number = some ⟨oc_read_number, od_read_number, .func (PySem.W.fnOf "read_number" "read_number" (defArgs s_read_number) (defBody s_read_number) (defScope s_read_number) .none kV_read_number dc_read_number pm_read_number an_read_number cd_read_number ct_read_number), sl_read_number⟩) (c_read_number : PySem.W.codeIn K cd_read_number "read_number" = true) (k_read_number : PySem.W.keepIn K (.ref f_read_number) = true)
    (a_read_pair : PySem.W.nsIn K mainGlobals "read_pair" = some (some (.ref f_read_pair))) (l_read_pair : K.lookup f_read_pair = some ⟨oc_read_pair, od_read_pair, .func (PySem.W.fnOf "read_pair" "read_pair" (defArgs s_read_pair) (defBody s_read_pair) (defScope s_read_pair) .none kV_read_pair dc_read_pair pm_read_pair an_read_pair cd_read_pair ct_read_pair), sl_read_pair⟩) (c_read_pair : PySem.W.codeIn K cd_read_pair "read_pair" = true) (k_read_pair : PySem.W.keepIn K (.ref f_read_pair) = true)
    (a_read_series : PySem.W.nsIn K mainGlobals "read_series" = some (some (.ref f_read_series))) (l_read_series : K.lookup f_read_series = some ⟨oc_read_series, od_read_series, .func (PySem.W.fnOf "read_series" "read_series" (defArgs s_read_series) (defBody s_read_series) (defScope s_read_series) .none kV_read_series dc_read_series pm_read_series an_read_series cd_read_series ct_read_series), sl_read_series⟩) (c_read_series : PySem.W.codeIn K cd_read_series "read_series" = true) (k_read_series : PySem.W.keepIn K (.ref f_read_series) = true)
    (a_read_list : PySem.W.nsIn K mainGlobals "read_list" = some (some (.ref f_read_list))) (l_read_list : K.lookup f_read_list = some ⟨oc_read_list, od_read_list, .func (PySem.W.fnOf "read_list" "read_list" (defArgs s_read_list) (defBody s_read_list) (defScope s_read_list) .none kV_read_list dc_read_list pm_read_list an_read_list cd_read_list ct_read_list), sl_read_list⟩) (c_read_list : PySem.W.codeIn K cd_read_list "read_list" = true) (k_read_list : PySem.W.keepIn K (.ref f_read_list) = true)
    (a_read_box : PySem.W.nsIn K mainGlobals "read_box" = some (some (.ref f_read_box))) (l_read_box : K.lookup f_read_box = some ⟨oc_read_box, od_read_box, .func (PySem.W.fnOf "read_box" "read_box" (defArgs s_read_box) (defBody s_read_box) (defScope s_read_box) .none kV_read_box dc_read_box pm_read_box an_read_box cd_read_box ct_read_box), sl_read_box⟩) (c_read_box : PySem.W.codeIn K cd_read_box "read_box" = true) (k_read_box : PySem.W.keepIn K (.ref f_read_box) = true)
    (a_read_after : PySem.W.nsIn K mainGlobals "read_after" = some (some (.ref f_read_after))) (l_read_after : K.lookup f_read_after = some ⟨oc_read_after, od_read_after, .func (PySem.W.fnOf "read_after" "read_after" (defArgs s_read_after) (defBody s_read_after) (defScope s_read_after) .none kV_read_after dc_read_after pm_read_after an_read_after cd_read_after ct_read_after), sl_read_after⟩) (c_read_after : PySem.W.codeIn K cd_read_after "read_after" = true) (k_read_after : PySem.W.keepIn K (.ref f_read_after) = true)
    (a_read_put : PySem.W.nsIn K mainGlobals "read_put" = some (some (.ref f_read_put))) (l_read_put : K.lookup f_read_put = some ⟨oc_read_put, od_read_put, .func (PySem.W.fnOf "read_put" "read_put" (defArgs s_read_put) (defBody s_read_put) (defScope s_read_put) .none kV_read_put dc_read_put pm_read_put an_read_put cd_read_put ct_read_put), sl_read_put⟩) (c_read_put : PySem.W.codeIn K cd_read_put "read_put" = true) (k_read_put : PySem.W.keepIn K (.ref f_read_put) = true)
    (a_read_drop : PySem.W.nsIn K mainGlobals "read_drop" = some (some (.ref f_read_drop))) (l_read_drop : K.lookup f_read_drop = some ⟨oc_read_drop, od_read_drop, .func (PySem.W.fnOf "read_drop" "read_drop" (defArgs s_read_drop) (defBody s_read_drop) (defScope s_read_drop) .none kV_read_drop dc_read_drop pm_read_drop an_read_drop cd_read_drop ct_read_drop), sl_read_drop⟩) (c_read_drop : PySem.W.codeIn K cd_read_drop "read_drop" = true) (k_read_drop : PySem.W.keepIn K (.ref f_read_drop) = true)
    (a_read_turn : PySem.W.nsIn K mainGlobals "read_turn" = some (some (.ref f_read_turn))) (l_read_turn : K.lookup f_read_turn = some ⟨oc_read_turn, od_read_turn, .func (PySem.W.fnOf "read_turn" "read_turn" (defArgs s_read_turn) (defBody s_read_turn) (defScope s_read_turn) .none kV_read_turn dc_read_turn pm_read_turn an_read_turn cd_read_turn ct_read_turn), sl_read_turn⟩) (c_read_turn : PySem.W.codeIn K cd_read_turn "read_turn" = true) (k_read_turn : PySem.W.keepIn K (.ref f_read_turn) = true)
    (a_read_condition : PySem.W.nsIn K mainGlobals "read_condition" = some (some (.ref f_read_condition))) (l_read_condition : K.lookup f_read_condition = some ⟨oc_read_condition, od_read_condition, .func (PySem.W.fnOf "read_condition" "read_condition" (defArgs s_read_condition) (defBody s_read_condition) (defScope s_read_condition) .none kV_read_condition dc_read_condition pm_read_condition an_read_condition cd_read_condition ct_read_condition), sl_read_condition⟩) (c_read_condition : PySem.W.codeIn K cd_read_condition "read_condition" = true) (k_read_condition : PySem.W.keepIn K (.ref f_read_condition) = true)
    (a_read_conditions : PySem.W.nsIn K mainGlobals "read_conditions" = some (some (.ref f_read_conditions))) (l_read_conditions : K.lookup f_read_conditions = some ⟨oc_read_conditions, od_read_conditions, .func (PySem.W.fnOf "read_conditions" "read_conditions" (defArgs s_read_conditions) (defBody s_read_conditions) (defScope s_read_conditions) .none kV_read_conditions dc_read_conditions pm_read_conditions an_read_conditions cd_read_conditions ct_read_conditions), sl_read_conditions⟩) (c_read_conditions : PySem.W.codeIn K cd_read_conditions "read_conditions" = true) (k_read_conditions : PySem.W.keepIn K (.ref f_read_conditions) = true)
    (a_read_conditional : PySem.W.nsIn K mainGlobals "read_conditional" = some (some (.ref f_read_conditional))) (l_read_conditional : K.lookup f_read_conditional = some ⟨oc_read_conditional, od_read_conditional, .func (PySem.W.fnOf "read_conditional" "read_conditional" (defArgs s_read_conditional) (defBody s_read_conditional) (defScope s_read_conditional) .none kV_read_conditional dc_read_conditional pm_read_conditional an_read_conditional cd_read_conditional ct_read_conditional), sl_read_conditional⟩) (c_read_conditional : PySem.W.codeIn K cd_read_conditional "read_conditional" = true) (k_read_conditional : PySem.W.keepIn K (.ref f_read_conditional) = true)
    (a_read_nearest : PySem.W.nsIn K mainGlobals "read_nearest" = some (some (.ref f_read_nearest))) (l_read_nearest : K.lookup f_read_nearest = some ⟨oc_read_nearest, od_read_nearest, .func (PySem.W.fnOf "read_nearest" "read_nearest" (defArgs s_read_nearest) (defBody s_read_nearest) (defScope s_read_nearest) .none kV_read_nearest dc_read_nearest pm_read_nearest an_read_nearest cd_read_nearest ct_read_nearest), sl_read_nearest⟩) (c_read_nearest : PySem.W.codeIn K cd_read_nearest "read_nearest" = true) (k_read_nearest : PySem.W.keepIn K (.ref f_read_nearest) = true)
    (a_read_skyline : PySem.W.nsIn K mainGlobals "read_skyline" = some (some (.ref f_read_skyline))) (l_read_skyline : K.lookup f_read_skyline = some ⟨oc_read_skyline, od_read_skyline, .func (PySem.W.fnOf "read_skyline" "read_skyline" (defArgs s_read_skyline) (defBody s_read_skyline) (defScope s_read_skyline) .none kV_read_skyline dc_read_skyline pm_read_skyline an_read_skyline cd_read_skyline ct_read_skyline), sl_read_skyline⟩) (c_read_skyline : PySem.W.codeIn K cd_read_skyline "read_skyline" = true) (k_read_skyline : PySem.W.keepIn K (.ref f_read_skyline) = true)
    (a_read_during : PySem.W.nsIn K mainGlobals "read_during" = some (some (.ref f_read_during))) (l_read_during : K.lookup f_read_during = some ⟨oc_read_during, od_read_during, .func (PySem.W.fnOf "read_during" "read_during" (defArgs s_read_during) (defBody s_read_during) (defScope s_read_during) .none kV_read_during dc_read_during pm_read_during an_read_during cd_read_during ct_read_during), sl_read_during⟩) (c_read_during : PySem.W.codeIn K cd_read_during "read_during" = true) (k_read_during : PySem.W.keepIn K (.ref f_read_during) = true)
    (a_read_first : PySem.W.nsIn K mainGlobals "read_first" = some (some (.ref f_read_first))) (l_read_first : K.lookup f_read_first = some ⟨oc_read_first, od_read_first, .func (PySem.W.fnOf "read_first" "read_first" (defArgs s_read_first) (defBody s_read_first) (defScope s_read_first) .none kV_read_first dc_read_first pm_read_first an_read_first cd_read_first ct_read_first), sl_read_first⟩) (c_read_first : PySem.W.codeIn K cd_read_first "read_first" = true) (k_read_first : PySem.W.keepIn K (.ref f_read_first) = true)
    (a_read_nothing : PySem.W.nsIn K mainGlobals "read_nothing" = some (some (.ref f_read_nothing))) (l_read_nothing : K.lookup f_read_nothing = some ⟨oc_read_nothing, od_read_nothing, .func (PySem.W.fnOf "read_nothing" "read_nothing" (defArgs s_read_nothing) (defBody s_read_nothing) (defScope s_read_nothing) .none kV_read_nothing dc_read_nothing pm_read_nothing an_read_nothing cd_read_nothing ct_read_nothing), sl_read_nothing⟩) (c_read_nothing : PySem.W.codeIn K cd_read_nothing "read_nothing" = true) (k_read_nothing : PySem.W.keepIn K (.ref f_read_nothing) = true)
    (a_parse : PySem.W.nsIn K mainGlobals "parse" = some (some (.ref f_parse))) (l_parse : K.lookup f_parse = some ⟨oc_parse, od_parse, .func (PySem.W.fnOf "parse" "parse" (defArgs s_parse) (defBody s_parse) (defScope s_parse) .none kV_parse dc_parse pm_parse an_parse cd_parse ct_parse), sl_parse⟩) (c_parse : PySem.W.codeIn K cd_parse "parse" = true) (k_parse : PySem.W.keepIn K (.ref f_parse) = true)
    (a__law_so : PySem.W.nsIn K mainGlobals "_law_so" = some (some (.ref f__law_so))) (l__law_so : K.lookup f__law_so = some ⟨oc__law_so, od__law_so, .func (PySem.W.fnOf "_law_so" "_law_so" (defArgs s__law_so) (defBody s__law_so) (defScope s__law_so) .none kV__law_so dc__law_so pm__law_so an__law_so cd__law_so ct__law_so), sl__law_so⟩) (c__law_so : PySem.W.codeIn K cd__law_so "_law_so" = true) (k__law_so : PySem.W.keepIn K (.ref f__law_so) = true)
    (a__law_numbers : PySem.W.nsIn K mainGlobals "_law_numbers" = some (some (.ref f__law_numbers))) (l__law_numbers : K.lookup f__law_numbers = some ⟨oc__law_numbers, od__law_numbers, .func (PySem.W.fnOf "_law_numbers" "_law_numbers" (defArgs s__law_numbers) (defBody s__law_numbers) (defScope s__law_numbers) .none kV__law_numbers dc__law_numbers pm__law_numbers an__law_numbers cd__law_numbers ct__law_numbers), sl__law_numbers⟩) (c__law_numbers : PySem.W.codeIn K cd__law_numbers "_law_numbers" = true) (k__law_numbers : PySem.W.keepIn K (.ref f__law_numbers) = true)
    (a__law_draw : PySem.W.nsIn K mainGlobals "_law_draw" = some (some (.ref f__law_draw))) (l__law_draw : K.lookup f__law_draw = some ⟨oc__law_draw, od__law_draw, .func (PySem.W.fnOf "_law_draw" "_law_draw" (defArgs s__law_draw) (defBody s__law_draw) (defScope s__law_draw) .none kV__law_draw dc__law_draw pm__law_draw an__law_draw cd__law_draw ct__law_draw), sl__law_draw⟩) (c__law_draw : PySem.W.codeIn K cd__law_draw "_law_draw" = true) (k__law_draw : PySem.W.keepIn K (.ref f__law_draw) = true)
    (a__law_take : PySem.W.nsIn K mainGlobals "_law_take" = some (some (.ref f__law_take))) (l__law_take : K.lookup f__law_take = some ⟨oc__law_take, od__law_take, .func (PySem.W.fnOf "_law_take" "_law_take" (defArgs s__law_take) (defBody s__law_take) (defScope s__law_take) .none kV__law_take dc__law_take pm__law_take an__law_take cd__law_take ct__law_take), sl__law_take⟩) (c__law_take : PySem.W.codeIn K cd__law_take "_law_take" = true) (k__law_take : PySem.W.keepIn K (.ref f__law_take) = true)
    (a__law_wide : PySem.W.nsIn K mainGlobals "_law_wide" = some (some (.ref f__law_wide))) (l__law_wide : K.lookup f__law_wide = some ⟨oc__law_wide, od__law_wide, .func (PySem.W.fnOf "_law_wide" "_law_wide" (defArgs s__law_wide) (defBody s__law_wide) (defScope s__law_wide) .none kV__law_wide dc__law_wide pm__law_wide an__law_wide cd__law_wide ct__law_wide), sl__law_wide⟩) (c__law_wide : PySem.W.codeIn K cd__law_wide "_law_wide" = true) (k__law_wide : PySem.W.keepIn K (.ref f__law_wide) = true)
    (a__law_figure : PySem.W.nsIn K mainGlobals "_law_figure" = some (some (.ref f__law_figure))) (l__law_figure : K.lookup f__law_figure = some ⟨oc__law_figure, od__law_figure, .func (PySem.W.fnOf "_law_figure" "_law_figure" (defArgs s__law_figure) (defBody s__law_figure) (defScope s__law_figure) .none kV__law_figure dc__law_figure pm__law_figure an__law_figure cd__law_figure ct__law_figure), sl__law_figure⟩) (c__law_figure : PySem.W.codeIn K cd__law_figure "_law_figure" = true) (k__law_figure : PySem.W.keepIn K (.ref f__law_figure) = true)
    (a__law_any_box : PySem.W.nsIn K mainGlobals "_law_any_box" = some (some (.ref f__law_any_box))) (l__law_any_box : K.lookup f__law_any_box = some ⟨oc__law_any_box, od__law_any_box, .func (PySem.W.fnOf "_law_any_box" "_law_any_box" (defArgs s__law_any_box) (defBody s__law_any_box) (defScope s__law_any_box) .none kV__law_any_box dc__law_any_box pm__law_any_box an__law_any_box cd__law_any_box ct__law_any_box), sl__law_any_box⟩) (c__law_any_box : PySem.W.codeIn K cd__law_any_box "_law_any_box" = true) (k__law_any_box : PySem.W.keepIn K (.ref f__law_any_box) = true)
    (a__law_any_list : PySem.W.nsIn K mainGlobals "_law_any_list" = some (some (.ref f__law_any_list))) (l__law_any_list : K.lookup f__law_any_list = some ⟨oc__law_any_list, od__law_any_list, .func (PySem.W.fnOf "_law_any_list" "_law_any_list" (defArgs s__law_any_list) (defBody s__law_any_list) (defScope s__law_any_list) .none kV__law_any_list dc__law_any_list pm__law_any_list an__law_any_list cd__law_any_list ct__law_any_list), sl__law_any_list⟩) (c__law_any_list : PySem.W.codeIn K cd__law_any_list "_law_any_list" = true) (k__law_any_list : PySem.W.keepIn K (.ref f__law_any_list) = true)
    (a__law_statement : PySem.W.nsIn K mainGlobals "_law_statement" = some (some (.ref f__law_statement))) (l__law_statement : K.lookup f__law_statement = some ⟨oc__law_statement, od__law_statement, .func (PySem.W.fnOf "_law_statement" "_law_statement" (defArgs s__law_statement) (defBody s__law_statement) (defScope s__law_statement) .none kV__law_statement dc__law_statement pm__law_statement an__law_statement cd__law_statement ct__law_statement), sl__law_statement⟩) (c__law_statement : PySem.W.codeIn K cd__law_statement "_law_statement" = true) (k__law_statement : PySem.W.keepIn K (.ref f__law_statement) = true)
    (a__law_box_text : PySem.W.nsIn K mainGlobals "_law_box_text" = some (some (.ref f__law_box_text))) (l__law_box_text : K.lookup f__law_box_text = some ⟨oc__law_box_text, od__law_box_text, .func (PySem.W.fnOf "_law_box_text" "_law_box_text" (defArgs s__law_box_text) (defBody s__law_box_text) (defScope s__law_box_text) .none kV__law_box_text dc__law_box_text pm__law_box_text an__law_box_text cd__law_box_text ct__law_box_text), sl__law_box_text⟩) (c__law_box_text : PySem.W.codeIn K cd__law_box_text "_law_box_text" = true) (k__law_box_text : PySem.W.keepIn K (.ref f__law_box_text) = true)
    (a__law_list_text : PySem.W.nsIn K mainGlobals "_law_list_text" = some (some (.ref f__law_list_text))) (l__law_list_text : K.lookup f__law_list_text = some ⟨oc__law_list_text, od__law_list_text, .func (PySem.W.fnOf "_law_list_text" "_law_list_text" (defArgs s__law_list_text) (defBody s__law_list_text) (defScope s__law_list_text) .none kV__law_list_text dc__law_list_text pm__law_list_text an__law_list_text cd__law_list_text ct__law_list_text), sl__law_list_text⟩) (c__law_list_text : PySem.W.codeIn K cd__law_list_text "_law_list_text" = true) (k__law_list_text : PySem.W.keepIn K (.ref f__law_list_text) = true)
    (a__law_wants_text : PySem.W.nsIn K mainGlobals "_law_wants_text" = some (some (.ref f__law_wants_text))) (l__law_wants_text : K.lookup f__law_wants_text = some ⟨oc__law_wants_text, od__law_wants_text, .func (PySem.W.fnOf "_law_wants_text" "_law_wants_text" (defArgs s__law_wants_text) (defBody s__law_wants_text) (defScope s__law_wants_text) .none kV__law_wants_text dc__law_wants_text pm__law_wants_text an__law_wants_text cd__law_wants_text ct__law_wants_text), sl__law_wants_text⟩) (c__law_wants_text : PySem.W.codeIn K cd__law_wants_text "_law_wants_text" = true) (k__law_wants_text : PySem.W.keepIn K (.ref f__law_wants_text) = true)
    (a__law_print : PySem.W.nsIn K mainGlobals "_law_print" = some (some (.ref f__law_print))) (l__law_print : K.lookup f__law_print = some ⟨oc__law_print, od__law_print, .func (PySem.W.fnOf "_law_print" "_law_print" (defArgs s__law_print) (defBody s__law_print) (defScope s__law_print) .none kV__law_print dc__law_print pm__law_print an__law_print cd__law_print ct__law_print), sl__law_print⟩) (c__law_print : PySem.W.codeIn K cd__law_print "_law_print" = true) (k__law_print : PySem.W.keepIn K (.ref f__law_print) = true)
    (a__law_run : PySem.W.nsIn K mainGlobals "_law_run" = some (some (.ref f__law_run))) (l__law_run : K.lookup f__law_run = some ⟨oc__law_run, od__law_run, .func (PySem.W.fnOf "_law_run" "_law_run" (defArgs s__law_run) (defBody s__law_run) (defScope s__law_run) .none kV__law_run dc__law_run pm__law_run an__law_run cd__law_run ct__law_run), sl__law_run⟩) (c__law_run : PySem.W.codeIn K cd__law_run "_law_run" = true) (k__law_run : PySem.W.keepIn K (.ref f__law_run) = true)
    (a__law_tokens : PySem.W.nsIn K mainGlobals "_law_tokens" = some (some (.ref f__law_tokens))) (l__law_tokens : K.lookup f__law_tokens = some ⟨oc__law_tokens, od__law_tokens, .func (PySem.W.fnOf "_law_tokens" "_law_tokens" (defArgs s__law_tokens) (defBody s__law_tokens) (defScope s__law_tokens) .none kV__law_tokens dc__law_tokens pm__law_tokens an__law_tokens cd__law_tokens ct__law_tokens), sl__law_tokens⟩) (c__law_tokens : PySem.W.codeIn K cd__law_tokens "_law_tokens" = true) (k__law_tokens : PySem.W.keepIn K (.ref f__law_tokens) = true)
    (a__law_expect : PySem.W.nsIn K mainGlobals "_law_expect" = some (some (.ref f__law_expect))) (l__law_expect : K.lookup f__law_expect = some ⟨oc__law_expect, od__law_expect, .func (PySem.W.fnOf "_law_expect" "_law_expect" (defArgs s__law_expect) (defBody s__law_expect) (defScope s__law_expect) .none kV__law_expect dc__law_expect pm__law_expect an__law_expect cd__law_expect ct__law_expect), sl__law_expect⟩) (c__law_expect : PySem.W.codeIn K cd__law_expect "_law_expect" = true) (k__law_expect : PySem.W.keepIn K (.ref f__law_expect) = true)
    (a__law_is_next : PySem.W.nsIn K mainGlobals "_law_is_next" = some (some (.ref f__law_is_next))) (l__law_is_next : K.lookup f__law_is_next = some ⟨oc__law_is_next, od__law_is_next, .func (PySem.W.fnOf "_law_is_next" "_law_is_next" (defArgs s__law_is_next) (defBody s__law_is_next) (defScope s__law_is_next) .none kV__law_is_next dc__law_is_next pm__law_is_next an__law_is_next cd__law_is_next ct__law_is_next), sl__law_is_next⟩) (c__law_is_next : PySem.W.codeIn K cd__law_is_next "_law_is_next" = true) (k__law_is_next : PySem.W.keepIn K (.ref f__law_is_next) = true)
    (a__law_read_list : PySem.W.nsIn K mainGlobals "_law_read_list" = some (some (.ref f__law_read_list))) (l__law_read_list : K.lookup f__law_read_list = some ⟨oc__law_read_list, od__law_read_list, .func (PySem.W.fnOf "_law_read_list" "_law_read_list" (defArgs s__law_read_list) (defBody s__law_read_list) (defScope s__law_read_list) .none kV__law_read_list dc__law_read_list pm__law_read_list an__law_read_list cd__law_read_list ct__law_read_list), sl__law_read_list⟩) (c__law_read_list : PySem.W.codeIn K cd__law_read_list "_law_read_list" = true) (k__law_read_list : PySem.W.keepIn K (.ref f__law_read_list) = true)
    (a__law_read_after : PySem.W.nsIn K mainGlobals "_law_read_after" = some (some (.ref f__law_read_after))) (l__law_read_after : K.lookup f__law_read_after = some ⟨oc__law_read_after, od__law_read_after, .func (PySem.W.fnOf "_law_read_after" "_law_read_after" (defArgs s__law_read_after) (defBody s__law_read_after) (defScope s__law_read_after) .none kV__law_read_after dc__law_read_after pm__law_read_after an__law_read_after cd__law_read_after ct__law_read_after), sl__law_read_after⟩) (c__law_read_after : PySem.W.codeIn K cd__law_read_after "_law_read_after" = true) (k__law_read_after : PySem.W.keepIn K (.ref f__law_read_after) = true)
    (a__law_read_speed : PySem.W.nsIn K mainGlobals "_law_read_speed" = some (some (.ref f__law_read_speed))) (l__law_read_speed : K.lookup f__law_read_speed = some ⟨oc__law_read_speed, od__law_read_speed, .func (PySem.W.fnOf "_law_read_speed" "_law_read_speed" (defArgs s__law_read_speed) (defBody s__law_read_speed) (defScope s__law_read_speed) .none kV__law_read_speed dc__law_read_speed pm__law_read_speed an__law_read_speed cd__law_read_speed ct__law_read_speed), sl__law_read_speed⟩) (c__law_read_speed : PySem.W.codeIn K cd__law_read_speed "_law_read_speed" = true) (k__law_read_speed : PySem.W.keepIn K (.ref f__law_read_speed) = true)
    (a__law_read_wants : PySem.W.nsIn K mainGlobals "_law_read_wants" = some (some (.ref f__law_read_wants))) (l__law_read_wants : K.lookup f__law_read_wants = some ⟨oc__law_read_wants, od__law_read_wants, .func (PySem.W.fnOf "_law_read_wants" "_law_read_wants" (defArgs s__law_read_wants) (defBody s__law_read_wants) (defScope s__law_read_wants) .none kV__law_read_wants dc__law_read_wants pm__law_read_wants an__law_read_wants cd__law_read_wants ct__law_read_wants), sl__law_read_wants⟩) (c__law_read_wants : PySem.W.codeIn K cd__law_read_wants "_law_read_wants" = true) (k__law_read_wants : PySem.W.keepIn K (.ref f__law_read_wants) = true)
    (a__law_read : PySem.W.nsIn K mainGlobals "_law_read" = some (some (.ref f__law_read))) (l__law_read : K.lookup f__law_read = some ⟨oc__law_read, od__law_read, .func (PySem.W.fnOf "_law_read" "_law_read" (defArgs s__law_read) (defBody s__law_read) (defScope s__law_read) .none kV__law_read dc__law_read pm__law_read an__law_read cd__law_read ct__law_read), sl__law_read⟩) (c__law_read : PySem.W.codeIn K cd__law_read "_law_read" = true) (k__law_read : PySem.W.keepIn K (.ref f__law_read) = true)
    (a__law_parsed : PySem.W.nsIn K mainGlobals "_law_parsed" = some (some (.ref f__law_parsed))) (l__law_parsed : K.lookup f__law_parsed = some ⟨oc__law_parsed, od__law_parsed, .func (PySem.W.fnOf "_law_parsed" "_law_parsed" (defArgs s__law_parsed) (defBody s__law_parsed) (defScope s__law_parsed) .none kV__law_parsed dc__law_parsed pm__law_parsed an__law_parsed cd__law_parsed ct__law_parsed), sl__law_parsed⟩) (c__law_parsed : PySem.W.codeIn K cd__law_parsed "_law_parsed" = true) (k__law_parsed : PySem.W.keepIn K (.ref f__law_parsed) = true)
    (a__law_spaced : PySem.W.nsIn K mainGlobals "_law_spaced" = some (some (.ref f__law_spaced))) (l__law_spaced : K.lookup f__law_spaced = some ⟨oc__law_spaced, od__law_spaced, .func (PySem.W.fnOf "_law_spaced" "_law_spaced" (defArgs s__law_spaced) (defBody s__law_spaced) (defScope s__law_spaced) .none kV__law_spaced dc__law_spaced pm__law_spaced an__law_spaced cd__law_spaced ct__law_spaced), sl__law_spaced⟩) (c__law_spaced : PySem.W.codeIn K cd__law_spaced "_law_spaced" = true) (k__law_spaced : PySem.W.keepIn K (.ref f__law_spaced) = true)
    (a_law : PySem.W.nsIn K mainGlobals "law" = some (some (.ref f_law))) (l_law : K.lookup f_law = some ⟨oc_law, od_law, .func (PySem.W.fnOf "law" "law" (defArgs s_law) (defBody s_law) (defScope s_law) .none kV_law dc_law pm_law an_law cd_law ct_law), sl_law⟩) (c_law : PySem.W.codeIn K cd_law "law" = true) (k_law : PySem.W.keepIn K (.ref f_law) = true)
    (z_ALL : PySem.W.nsIn K mainGlobals "ALL" = some (some (.str "all" tk_ALL)))
    (z_MOST_DIGITS : PySem.W.nsIn K mainGlobals "MOST_DIGITS" = some (some (.int 12 tk_MOST_DIGITS)))
    (on_Reader_at : PySem.W.findIn K (.ref C_Reader) "_at" = some none)
    (on_Reader_text : PySem.W.findIn K (.ref C_Reader) "_text" = some none)
    (km_READERS : PySem.W.nsIn K mainGlobals "READERS" = some (some (.ref D_READERS))) (kl_READERS : K.lookup D_READERS = some ⟨.type "dict", none, .dict es_READERS nn_READERS, #[]⟩) (kk_READERS : PySem.W.KeysLit w.params es_READERS.toList) (kz_READERS : (D_READERS == sysModules) = false)
    (ky_READERS : es_READERS.size ≤ sizeLine ∧ Vals [.str "put", .str "drop", .str "turn", .str "select", .str "count", .str "nearest", .str "skyline", .str "during", .str "first", .str "commit", .str "rollback"] (es_READERS.toList.map (·.key)))
    (ke_READERS_put : PySem.W.nsIn K D_READERS "put" = some (some (.ref V_read_put)))
    (ke_READERS_drop : PySem.W.nsIn K D_READERS "drop" = some (some (.ref V_read_drop)))
    (ke_READERS_turn : PySem.W.nsIn K D_READERS "turn" = some (some (.ref V_read_turn)))
    (ke_READERS_select : PySem.W.nsIn K D_READERS "select" = some (some (.ref V_read_conditional)))
    (ke_READERS_count : PySem.W.nsIn K D_READERS "count" = some (some (.ref V_read_conditional)))
    (ke_READERS_nearest : PySem.W.nsIn K D_READERS "nearest" = some (some (.ref V_read_nearest)))
    (ke_READERS_skyline : PySem.W.nsIn K D_READERS "skyline" = some (some (.ref V_read_skyline)))
    (ke_READERS_during : PySem.W.nsIn K D_READERS "during" = some (some (.ref V_read_during)))
    (ke_READERS_first : PySem.W.nsIn K D_READERS "first" = some (some (.ref V_read_first)))
    (ke_READERS_commit : PySem.W.nsIn K D_READERS "commit" = some (some (.ref V_read_nothing)))
    (ke_READERS_rollback : PySem.W.nsIn K D_READERS "rollback" = some (some (.ref V_read_nothing)))
    (km_WORDS : PySem.W.nsIn K mainGlobals "WORDS" = some (some (.ref D_WORDS))) (kl_WORDS : K.lookup D_WORDS = some ⟨.type "tuple", none, .seq its_WORDS nt_WORDS, #[]⟩) (kv_WORDS : its_WORDS.size ≤ sizeLine ∧ Vals [.str "meets", .str "inside", .str "covers"] its_WORDS.toList)
    (z_bool : PySem.W.nsIn K mainGlobals "bool" = some none)
    (z_int : PySem.W.nsIn K mainGlobals "int" = some none)
    (z_isinstance : PySem.W.nsIn K mainGlobals "isinstance" = some none)
    (z_len : PySem.W.nsIn K mainGlobals "len" = some none)
    (z_list : PySem.W.nsIn K mainGlobals "list" = some none)
    (z_range : PySem.W.nsIn K mainGlobals "range" = some none)
    (z_str : PySem.W.nsIn K mainGlobals "str" = some none)
    (z_tuple : PySem.W.nsIn K mainGlobals "tuple" = some none)
    (oa_Reader : PySem.W.nsIn K mainGlobals "Reader" = some (some (.ref C_Reader))) (og_Reader : PySem.W.plainGet K C_Reader Str.empty = true) (oh_Reader : PySem.W.hasDictIn K C_Reader = true) (oo_Reader : PySem.W.plainOver K C_Reader = true) (os_Reader : PySem.W.findIn K (.ref C_Reader) "__setattr__" = some (some (.builtin "object.__setattr__"))) (om_Reader : PySem.W.makesIn K C_Reader = true) (ok_Reader : PySem.W.keepIn K (.ref C_Reader) = true)
    (kv_read_box : PySem.W.nsIn K mainGlobals "read_box" = some (some (.ref V_read_box)))
    (kv_read_condition : PySem.W.nsIn K mainGlobals "read_condition" = some (some (.ref V_read_condition)))
    (kv_read_conditional : PySem.W.nsIn K mainGlobals "read_conditional" = some (some (.ref V_read_conditional)))
    (kv_read_drop : PySem.W.nsIn K mainGlobals "read_drop" = some (some (.ref V_read_drop)))
    (kv_read_during : PySem.W.nsIn K mainGlobals "read_during" = some (some (.ref V_read_during)))
    (kv_read_first : PySem.W.nsIn K mainGlobals "read_first" = some (some (.ref V_read_first)))
    (kv_read_list : PySem.W.nsIn K mainGlobals "read_list" = some (some (.ref V_read_list)))
    (kv_read_nearest : PySem.W.nsIn K mainGlobals "read_nearest" = some (some (.ref V_read_nearest)))
    (kv_read_nothing : PySem.W.nsIn K mainGlobals "read_nothing" = some (some (.ref V_read_nothing)))
    (kv_read_number : PySem.W.nsIn K mainGlobals "read_number" = some (some (.ref V_read_number)))
    (kv_read_pair : PySem.W.nsIn K mainGlobals "read_pair" = some (some (.ref V_read_pair)))
    (kv_read_put : PySem.W.nsIn K mainGlobals "read_put" = some (some (.ref V_read_put)))
    (kv_read_skyline : PySem.W.nsIn K mainGlobals "read_skyline" = some (some (.ref V_read_skyline)))
    (kv_read_turn : PySem.W.nsIn K mainGlobals "read_turn" = some (some (.ref V_read_turn))) :
    ∃ fd : FuncData, (∀ (s : Shared) (v : Value), BindsTo s fd ⟨[v], []⟩ [("script", v)]) ∧ ∀ base : Heap, K.In base → base.Ns mainGlobals mg → FnOk l.prog w K mg base CX0 13 fa fd ["script"] (sp_law K) := by
  have e := hfa.symm.trans (PySem.W.mg_of X G a_law)
  cases e
  have T : Txt K mg w D_READERS D_WORDS V_read_box V_read_condition V_read_conditional V_read_drop V_read_during V_read_first V_read_list V_read_nearest V_read_nothing V_read_number V_read_pair V_read_put V_read_skyline V_read_turn C_Reader tk_ALL tk_MOST_DIGITS := { c_ALL := PySem.W.mg_of X G z_ALL, c_MOST_DIGITS := PySem.W.mg_of X G z_MOST_DIGITS, f_Reader_at := on_Reader_at, f_Reader_text := on_Reader_text, km_READERS := PySem.W.mg_of X G km_READERS, kd_READERS := ⟨_, _, ⟨kl_READERS, kk_READERS, kz_READERS⟩⟩, kk_READERS := ⟨_, _, ⟨kl_READERS, kk_READERS, kz_READERS⟩, ky_READERS.1, ky_READERS.2⟩, ke_READERS_put := ke_READERS_put, ke_READERS_drop := ke_READERS_drop, ke_READERS_turn := ke_READERS_turn, ke_READERS_select := ke_READERS_select, ke_READERS_count := ke_READERS_count, ke_READERS_nearest := ke_READERS_nearest, ke_READERS_skyline := ke_READERS_skyline, ke_READERS_during := ke_READERS_during, ke_READERS_first := ke_READERS_first, ke_READERS_commit := ke_READERS_commit, ke_READERS_rollback := ke_READERS_rollback, km_WORDS := PySem.W.mg_of X G km_WORDS, kt_WORDS := fun H => .inr ⟨_, _, _, kl_WORDS, rfl, rfl, kv_WORDS.1, kv_WORDS.2⟩, b_bool := PySem.W.mg_none_of X G z_bool, b_int := PySem.W.mg_none_of X G z_int, b_isinstance := PySem.W.mg_none_of X G z_isinstance, b_len := PySem.W.mg_none_of X G z_len, b_list := PySem.W.mg_none_of X G z_list, b_range := PySem.W.mg_none_of X G z_range, b_str := PySem.W.mg_none_of X G z_str, b_tuple := PySem.W.mg_none_of X G z_tuple, o_Reader := ⟨og_Reader, oh_Reader, oo_Reader, os_Reader⟩, kv_read_box := PySem.W.mg_of X G kv_read_box, kv_read_condition := PySem.W.mg_of X G kv_read_condition, kv_read_conditional := PySem.W.mg_of X G kv_read_conditional, kv_read_drop := PySem.W.mg_of X G kv_read_drop, kv_read_during := PySem.W.mg_of X G kv_read_during, kv_read_first := PySem.W.mg_of X G kv_read_first, kv_read_list := PySem.W.mg_of X G kv_read_list, kv_read_nearest := PySem.W.mg_of X G kv_read_nearest, kv_read_nothing := PySem.W.mg_of X G kv_read_nothing, kv_read_number := PySem.W.mg_of X G kv_read_number, kv_read_pair := PySem.W.mg_of X G kv_read_pair, kv_read_put := PySem.W.mg_of X G kv_read_put, kv_read_skyline := PySem.W.mg_of X G kv_read_skyline, kv_read_turn := PySem.W.mg_of X G kv_read_turn }
  have F_run_end := fun_mk (st := s_run_end) l_run_end c_run_end k_run_end
  have b_run_end := F_run_end.binds (ps := ["text", "at", "first", "last"]) fun _ _ _ _ _ _ us hl => match us, hl with | [_, _, _, _], _ => rfl
  have m_run_end := PySem.W.mg_of X G a_run_end
  have F_token_end := fun_mk (st := s_token_end) l_token_end c_token_end k_token_end
  have b_token_end := F_token_end.binds (ps := ["text", "at"]) fun _ _ _ _ _ _ us hl => match us, hl with | [_, _], _ => rfl
  have m_token_end := PySem.W.mg_of X G a_token_end
  have F_is_number := fun_mk (st := s_is_number) l_is_number c_is_number k_is_number
  have b_is_number := F_is_number.binds (ps := ["token"]) fun _ _ _ _ _ _ us hl => match us, hl with | [_], _ => rfl
  have m_is_number := PySem.W.mg_of X G a_is_number
  have F_Reader____init__ := fun_mk (st := s_Reader____init__) l_Reader____init__ c_Reader____init__ k_Reader____init__
  have b_Reader____init__ := F_Reader____init__.binds (ps := ["self", "text"]) fun _ _ _ _ _ _ us hl => match us, hl with | [_, _], _ => rfl
  have F_Reader__due := fun_mk (st := s_Reader__due) l_Reader__due c_Reader__due k_Reader__due
  have b_Reader__due := F_Reader__due.binds (ps := ["self"]) fun _ _ _ _ _ _ us hl => match us, hl with | [_], _ => rfl
  have F_Reader__take := fun_mk (st := s_Reader__take) l_Reader__take c_Reader__take k_Reader__take
  have b_Reader__take := F_Reader__take.binds (ps := ["self", "tokens"]) fun _ _ _ _ _ _ us hl => match us, hl with | [_, _], _ => rfl
  have F_Reader__take_number := fun_mk (st := s_Reader__take_number) l_Reader__take_number c_Reader__take_number k_Reader__take_number
  have b_Reader__take_number := F_Reader__take_number.binds (ps := ["self"]) fun _ _ _ _ _ _ us hl => match us, hl with | [_], _ => rfl
  have F_Reader__finish := fun_mk (st := s_Reader__finish) l_Reader__finish c_Reader__finish k_Reader__finish
  have b_Reader__finish := F_Reader__finish.binds (ps := ["self"]) fun _ _ _ _ _ _ us hl => match us, hl with | [_], _ => rfl
  have F_Reader___pass := fun_mk (st := s_Reader___pass) l_Reader___pass c_Reader___pass k_Reader___pass
  have b_Reader___pass := F_Reader___pass.binds (ps := ["self", "token"]) fun _ _ _ _ _ _ us hl => match us, hl with | [_, _], _ => rfl
  have F_read_number := fun_mk (st := s_read_number) l_read_number c_read_number k_read_number
  have b_read_number := F_read_number.binds (ps := ["reader"]) fun _ _ _ _ _ _ us hl => match us, hl with | [_], _ => rfl
  have m_read_number := PySem.W.mg_of X G a_read_number
  have F_read_pair := fun_mk (st := s_read_pair) l_read_pair c_read_pair k_read_pair
  have b_read_pair := F_read_pair.binds (ps := ["reader"]) fun _ _ _ _ _ _ us hl => match us, hl with | [_], _ => rfl
  have m_read_pair := PySem.W.mg_of X G a_read_pair
  have F_read_series := fun_mk (st := s_read_series) l_read_series c_read_series k_read_series
  have b_read_series := F_read_series.binds (ps := ["reader", "read_one"]) fun _ _ _ _ _ _ us hl => match us, hl with | [_, _], _ => rfl
  have m_read_series := PySem.W.mg_of X G a_read_series
  have F_read_list := fun_mk (st := s_read_list) l_read_list c_read_list k_read_list
  have b_read_list := F_read_list.binds (ps := ["reader"]) fun _ _ _ _ _ _ us hl => match us, hl with | [_], _ => rfl
  have m_read_list := PySem.W.mg_of X G a_read_list
  have F_read_box := fun_mk (st := s_read_box) l_read_box c_read_box k_read_box
  have b_read_box := F_read_box.binds (ps := ["reader"]) fun _ _ _ _ _ _ us hl => match us, hl with | [_], _ => rfl
  have m_read_box := PySem.W.mg_of X G a_read_box
  have F_read_after := fun_mk (st := s_read_after) l_read_after c_read_after k_read_after
  have b_read_after := F_read_after.binds (ps := ["reader", "word", "read_one"]) fun _ _ _ _ _ _ us hl => match us, hl with | [_, _, _], _ => rfl
  have m_read_after := PySem.W.mg_of X G a_read_after
  have F_read_put := fun_mk (st := s_read_put) l_read_put c_read_put k_read_put
  have b_read_put := F_read_put.binds (ps := ["reader"]) fun _ _ _ _ _ _ us hl => match us, hl with | [_], _ => rfl
  have m_read_put := PySem.W.mg_of X G a_read_put
  have F_read_drop := fun_mk (st := s_read_drop) l_read_drop c_read_drop k_read_drop
  have b_read_drop := F_read_drop.binds (ps := ["reader"]) fun _ _ _ _ _ _ us hl => match us, hl with | [_], _ => rfl
  have m_read_drop := PySem.W.mg_of X G a_read_drop
  have F_read_turn := fun_mk (st := s_read_turn) l_read_turn c_read_turn k_read_turn
  have b_read_turn := F_read_turn.binds (ps := ["reader"]) fun _ _ _ _ _ _ us hl => match us, hl with | [_], _ => rfl
  have m_read_turn := PySem.W.mg_of X G a_read_turn
  have F_read_condition := fun_mk (st := s_read_condition) l_read_condition c_read_condition k_read_condition
  have b_read_condition := F_read_condition.binds (ps := ["reader"]) fun _ _ _ _ _ _ us hl => match us, hl with | [_], _ => rfl
  have m_read_condition := PySem.W.mg_of X G a_read_condition
  have F_read_conditions := fun_mk (st := s_read_conditions) l_read_conditions c_read_conditions k_read_conditions
  have b_read_conditions := F_read_conditions.binds (ps := ["reader"]) fun _ _ _ _ _ _ us hl => match us, hl with | [_], _ => rfl
  have m_read_conditions := PySem.W.mg_of X G a_read_conditions
  have F_read_conditional := fun_mk (st := s_read_conditional) l_read_conditional c_read_conditional k_read_conditional
  have b_read_conditional := F_read_conditional.binds (ps := ["reader"]) fun _ _ _ _ _ _ us hl => match us, hl with | [_], _ => rfl
  have m_read_conditional := PySem.W.mg_of X G a_read_conditional
  have F_read_nearest := fun_mk (st := s_read_nearest) l_read_nearest c_read_nearest k_read_nearest
  have b_read_nearest := F_read_nearest.binds (ps := ["reader"]) fun _ _ _ _ _ _ us hl => match us, hl with | [_], _ => rfl
  have m_read_nearest := PySem.W.mg_of X G a_read_nearest
  have F_read_skyline := fun_mk (st := s_read_skyline) l_read_skyline c_read_skyline k_read_skyline
  have b_read_skyline := F_read_skyline.binds (ps := ["reader"]) fun _ _ _ _ _ _ us hl => match us, hl with | [_], _ => rfl
  have m_read_skyline := PySem.W.mg_of X G a_read_skyline
  have F_read_during := fun_mk (st := s_read_during) l_read_during c_read_during k_read_during
  have b_read_during := F_read_during.binds (ps := ["reader"]) fun _ _ _ _ _ _ us hl => match us, hl with | [_], _ => rfl
  have m_read_during := PySem.W.mg_of X G a_read_during
  have F_read_first := fun_mk (st := s_read_first) l_read_first c_read_first k_read_first
  have b_read_first := F_read_first.binds (ps := ["reader"]) fun _ _ _ _ _ _ us hl => match us, hl with | [_], _ => rfl
  have m_read_first := PySem.W.mg_of X G a_read_first
  have F_read_nothing := fun_mk (st := s_read_nothing) l_read_nothing c_read_nothing k_read_nothing
  have b_read_nothing := F_read_nothing.binds (ps := ["_"]) fun _ _ _ _ _ _ us hl => match us, hl with | [_], _ => rfl
  have m_read_nothing := PySem.W.mg_of X G a_read_nothing
  have F_parse := fun_mk (st := s_parse) l_parse c_parse k_parse
  have b_parse := F_parse.binds (ps := ["text"]) fun _ _ _ _ _ _ us hl => match us, hl with | [_], _ => rfl
  have m_parse := PySem.W.mg_of X G a_parse
  have F__law_so := fun_mk (st := s__law_so) l__law_so c__law_so k__law_so
  have b__law_so := F__law_so.binds (ps := ["found", "meant"]) fun _ _ _ _ _ _ us hl => match us, hl with | [_, _], _ => rfl
  have m__law_so := PySem.W.mg_of X G a__law_so
  have F__law_numbers := fun_mk (st := s__law_numbers) l__law_numbers c__law_numbers k__law_numbers
  have b__law_numbers := F__law_numbers.binds (ps := ["script"]) fun _ _ _ _ _ _ us hl => match us, hl with | [_], _ => rfl
  have m__law_numbers := PySem.W.mg_of X G a__law_numbers
  have F__law_draw := fun_mk (st := s__law_draw) l__law_draw c__law_draw k__law_draw
  have b__law_draw := F__law_draw.binds (ps := ["row", "at", "limit"]) fun _ _ _ _ _ _ us hl => match us, hl with | [_, _, _], _ => rfl
  have m__law_draw := PySem.W.mg_of X G a__law_draw
  have F__law_take := fun_mk (st := s__law_take) l__law_take c__law_take k__law_take
  have b__law_take := F__law_take.binds (ps := ["row", "spot", "limit"]) fun _ _ _ _ _ _ us hl => match us, hl with | [_, _, _], _ => rfl
  have m__law_take := PySem.W.mg_of X G a__law_take
  have F__law_wide := fun_mk (st := s__law_wide) l__law_wide c__law_wide k__law_wide
  have b__law_wide := F__law_wide.binds (ps := ["row", "spot", "limit"]) fun _ _ _ _ _ _ us hl => match us, hl with | [_, _, _], _ => rfl
  have m__law_wide := PySem.W.mg_of X G a__law_wide
  have F__law_figure := fun_mk (st := s__law_figure) l__law_figure c__law_figure k__law_figure
  have b__law_figure := F__law_figure.binds (ps := ["row", "spot"]) fun _ _ _ _ _ _ us hl => match us, hl with | [_, _], _ => rfl
  have m__law_figure := PySem.W.mg_of X G a__law_figure
  have F__law_any_box := fun_mk (st := s__law_any_box) l__law_any_box c__law_any_box k__law_any_box
  have b__law_any_box := F__law_any_box.binds (ps := ["row", "spot"]) fun _ _ _ _ _ _ us hl => match us, hl with | [_, _], _ => rfl
  have m__law_any_box := PySem.W.mg_of X G a__law_any_box
  have F__law_any_list := fun_mk (st := s__law_any_list) l__law_any_list c__law_any_list k__law_any_list
  have b__law_any_list := F__law_any_list.binds (ps := ["row", "spot", "many"]) fun _ _ _ _ _ _ us hl => match us, hl with | [_, _, _], _ => rfl
  have m__law_any_list := PySem.W.mg_of X G a__law_any_list
  have F__law_statement := fun_mk (st := s__law_statement) l__law_statement c__law_statement k__law_statement
  have b__law_statement := F__law_statement.binds (ps := ["row", "spot"]) fun _ _ _ _ _ _ us hl => match us, hl with | [_, _], _ => rfl
  have m__law_statement := PySem.W.mg_of X G a__law_statement
  have F__law_box_text := fun_mk (st := s__law_box_text) l__law_box_text c__law_box_text k__law_box_text
  have b__law_box_text := F__law_box_text.binds (ps := ["box"]) fun _ _ _ _ _ _ us hl => match us, hl with | [_], _ => rfl
  have m__law_box_text := PySem.W.mg_of X G a__law_box_text
  have F__law_list_text := fun_mk (st := s__law_list_text) l__law_list_text c__law_list_text k__law_list_text
  have b__law_list_text := F__law_list_text.binds (ps := ["numbers"]) fun _ _ _ _ _ _ us hl => match us, hl with | [_], _ => rfl
  have m__law_list_text := PySem.W.mg_of X G a__law_list_text
  have F__law_wants_text := fun_mk (st := s__law_wants_text) l__law_wants_text c__law_wants_text k__law_wants_text
  have b__law_wants_text := F__law_wants_text.binds (ps := ["wants"]) fun _ _ _ _ _ _ us hl => match us, hl with | [_], _ => rfl
  have m__law_wants_text := PySem.W.mg_of X G a__law_wants_text
  have F__law_print := fun_mk (st := s__law_print) l__law_print c__law_print k__law_print
  have b__law_print := F__law_print.binds (ps := ["told"]) fun _ _ _ _ _ _ us hl => match us, hl with | [_], _ => rfl
  have m__law_print := PySem.W.mg_of X G a__law_print
  have F__law_run := fun_mk (st := s__law_run) l__law_run c__law_run k__law_run
  have b__law_run := F__law_run.binds (ps := ["text", "at", "letters"]) fun _ _ _ _ _ _ us hl => match us, hl with | [_, _, _], _ => rfl
  have m__law_run := PySem.W.mg_of X G a__law_run
  have F__law_tokens := fun_mk (st := s__law_tokens) l__law_tokens c__law_tokens k__law_tokens
  have b__law_tokens := F__law_tokens.binds (ps := ["text"]) fun _ _ _ _ _ _ us hl => match us, hl with | [_], _ => rfl
  have m__law_tokens := PySem.W.mg_of X G a__law_tokens
  have F__law_expect := fun_mk (st := s__law_expect) l__law_expect c__law_expect k__law_expect
  have b__law_expect := F__law_expect.binds (ps := ["state", "kind", "word"]) fun _ _ _ _ _ _ us hl => match us, hl with | [_, _, _], _ => rfl
  have m__law_expect := PySem.W.mg_of X G a__law_expect
  have F__law_is_next := fun_mk (st := s__law_is_next) l__law_is_next c__law_is_next k__law_is_next
  have b__law_is_next := F__law_is_next.binds (ps := ["state", "word"]) fun _ _ _ _ _ _ us hl => match us, hl with | [_, _], _ => rfl
  have m__law_is_next := PySem.W.mg_of X G a__law_is_next
  have F__law_read_list := fun_mk (st := s__law_read_list) l__law_read_list c__law_read_list k__law_read_list
  have b__law_read_list := F__law_read_list.binds (ps := ["state", "pairs"]) fun _ _ _ _ _ _ us hl => match us, hl with | [_, _], _ => rfl
  have m__law_read_list := PySem.W.mg_of X G a__law_read_list
  have F__law_read_after := fun_mk (st := s__law_read_after) l__law_read_after c__law_read_after k__law_read_after
  have b__law_read_after := F__law_read_after.binds (ps := ["state", "word"]) fun _ _ _ _ _ _ us hl => match us, hl with | [_, _], _ => rfl
  have m__law_read_after := PySem.W.mg_of X G a__law_read_after
  have F__law_read_speed := fun_mk (st := s__law_read_speed) l__law_read_speed c__law_read_speed k__law_read_speed
  have b__law_read_speed := F__law_read_speed.binds (ps := ["state", "other"]) fun _ _ _ _ _ _ us hl => match us, hl with | [_, _], _ => rfl
  have m__law_read_speed := PySem.W.mg_of X G a__law_read_speed
  have F__law_read_wants := fun_mk (st := s__law_read_wants) l__law_read_wants c__law_read_wants k__law_read_wants
  have b__law_read_wants := F__law_read_wants.binds (ps := ["state"]) fun _ _ _ _ _ _ us hl => match us, hl with | [_], _ => rfl
  have m__law_read_wants := PySem.W.mg_of X G a__law_read_wants
  have F__law_read := fun_mk (st := s__law_read) l__law_read c__law_read k__law_read
  have b__law_read := F__law_read.binds (ps := ["state"]) fun _ _ _ _ _ _ us hl => match us, hl with | [_], _ => rfl
  have m__law_read := PySem.W.mg_of X G a__law_read
  have F__law_parsed := fun_mk (st := s__law_parsed) l__law_parsed c__law_parsed k__law_parsed
  have b__law_parsed := F__law_parsed.binds (ps := ["text"]) fun _ _ _ _ _ _ us hl => match us, hl with | [_], _ => rfl
  have m__law_parsed := PySem.W.mg_of X G a__law_parsed
  have F__law_spaced := fun_mk (st := s__law_spaced) l__law_spaced c__law_spaced k__law_spaced
  have b__law_spaced := F__law_spaced.binds (ps := ["row", "spot", "text"]) fun _ _ _ _ _ _ us hl => match us, hl with | [_, _, _], _ => rfl
  have m__law_spaced := PySem.W.mg_of X G a__law_spaced
  have F_law := fun_mk (st := s_law) l_law c_law k_law
  have b_law := F_law.binds (ps := ["script"]) fun _ _ _ _ _ _ us hl => match us, hl with | [_], _ => rfl
  have m_law := PySem.W.mg_of X G a_law
  refine ⟨PySem.W.fnOf "law" "law" (defArgs s_law) (defBody s_law) (defScope s_law) .none kV_law dc_law pm_law an_law cd_law ct_law, fun s v => .of_eq rfl, fun base _ _ => ?_⟩
  have Q_run_end := ok_run_end (P := l.prog) (w := w) (base := base) F_run_end T 
  have O_run_end : Ok l.prog w K mg base 1 "run_end" ["text", "at", "first", "last"] (sp_run_end) := ⟨_, _, Q_run_end, m_run_end, F_run_end.kp, b_run_end⟩
  have Q_token_end := ok_token_end (P := l.prog) (w := w) (base := base) F_token_end T O_run_end
  have O_token_end : Ok l.prog w K mg base 2 "token_end" ["text", "at"] (sp_token_end) := ⟨_, _, Q_token_end, m_token_end, F_token_end.kp, b_token_end⟩
  have Q_is_number := ok_is_number (P := l.prog) (w := w) (base := base) F_is_number T 
  have O_is_number : Ok l.prog w K mg base 1 "is_number" ["token"] (sp_is_number) := ⟨_, _, Q_is_number, m_is_number, F_is_number.kp, b_is_number⟩
  have Q_Reader____init__ := ok_Reader____init__ (P := l.prog) (w := w) (base := base) F_Reader____init__ T O_run_end
  have O_Reader____init__ : OkI CX0 l.prog w K mg base 2 C_Reader "Reader" ["self", "text"] (sp_Reader____init__ C_Reader) := ⟨_, _, Q_Reader____init__, ⟨om_Reader, ma_Reader____init__, mf_Reader____init__, ok_Reader⟩, PySem.W.mg_of X G oa_Reader, b_Reader____init__⟩
  have Q_Reader__due := ok_Reader__due (P := l.prog) (w := w) (base := base) F_Reader__due T O_token_end
  have O_Reader__due : OkM CX0 l.prog w K mg base 3 C_Reader "due" ["self"] (sp_Reader__due C_Reader) := ⟨_, _, Q_Reader__due, ⟨ma_Reader__due, mf_Reader__due, F_Reader__due.kp⟩, b_Reader__due⟩
  have Q_Reader___pass := ok_Reader___pass (P := l.prog) (w := w) (base := base) F_Reader___pass T O_run_end
  have O_Reader___pass : OkM CX0 l.prog w K mg base 2 C_Reader "_pass" ["self", "token"] (sp_Reader___pass C_Reader) := ⟨_, _, Q_Reader___pass, ⟨ma_Reader___pass, mf_Reader___pass, F_Reader___pass.kp⟩, b_Reader___pass⟩
  have Q_Reader__take := ok_Reader__take (P := l.prog) (w := w) (base := base) F_Reader__take T O_Reader___pass O_Reader__due
  have O_Reader__take : OkM CX0 l.prog w K mg base 4 C_Reader "take" ["self", "tokens"] (sp_Reader__take K C_Reader) := ⟨_, _, Q_Reader__take, ⟨ma_Reader__take, mf_Reader__take, F_Reader__take.kp⟩, b_Reader__take⟩
  have Q_Reader__take_number := ok_Reader__take_number (P := l.prog) (w := w) (base := base) F_Reader__take_number T O_Reader___pass O_Reader__due O_is_number
  have O_Reader__take_number : OkM CX0 l.prog w K mg base 4 C_Reader "take_number" ["self"] (sp_Reader__take_number C_Reader) := ⟨_, _, Q_Reader__take_number, ⟨ma_Reader__take_number, mf_Reader__take_number, F_Reader__take_number.kp⟩, b_Reader__take_number⟩
  have Q_Reader__finish := ok_Reader__finish (P := l.prog) (w := w) (base := base) F_Reader__finish T 
  have O_Reader__finish : OkM CX0 l.prog w K mg base 3 C_Reader "finish" ["self"] (sp_Reader__finish C_Reader) := ⟨_, _, Q_Reader__finish, ⟨ma_Reader__finish, mf_Reader__finish, F_Reader__finish.kp⟩, b_Reader__finish⟩
  have Q_read_number := ok_read_number (P := l.prog) (w := w) (base := base) F_read_number T O_Reader__take_number
  have O_read_number : Ok l.prog w K mg base 5 "read_number" ["reader"] (sp_read_number C_Reader) := ⟨_, _, Q_read_number, m_read_number, F_read_number.kp, b_read_number⟩
  have Q_read_pair := ok_read_pair (P := l.prog) (w := w) (base := base) F_read_pair T O_Reader__due O_Reader__take O_Reader__take_number
  have O_read_pair : Ok l.prog w K mg base 5 "read_pair" ["reader"] (sp_read_pair C_Reader) := ⟨_, _, Q_read_pair, m_read_pair, F_read_pair.kp, b_read_pair⟩
  have Q_read_series := ok_read_series (P := l.prog) (w := w) (base := base) F_read_series T O_Reader__take O_read_number O_read_pair
  have O_read_series : Ok l.prog w K mg base 6 "read_series" ["reader", "read_one"] (sp_read_series C_Reader V_read_number V_read_pair) := ⟨_, _, Q_read_series, m_read_series, F_read_series.kp, b_read_series⟩
  have Q_read_list := ok_read_list (P := l.prog) (w := w) (base := base) F_read_list T O_read_series
  have O_read_list : Ok l.prog w K mg base 7 "read_list" ["reader"] (sp_read_list C_Reader) := ⟨_, _, Q_read_list, m_read_list, F_read_list.kp, b_read_list⟩
  have Q_read_box := ok_read_box (P := l.prog) (w := w) (base := base) F_read_box T O_read_series
  have O_read_box : Ok l.prog w K mg base 7 "read_box" ["reader"] (sp_read_box C_Reader) := ⟨_, _, Q_read_box, m_read_box, F_read_box.kp, b_read_box⟩
  have Q_read_condition := ok_read_condition (P := l.prog) (w := w) (base := base) F_read_condition T O_Reader__take O_read_box
  have O_read_condition : Ok l.prog w K mg base 8 "read_condition" ["reader"] (sp_read_condition C_Reader) := ⟨_, _, Q_read_condition, m_read_condition, F_read_condition.kp, b_read_condition⟩
  have Q_read_after := ok_read_after (P := l.prog) (w := w) (base := base) F_read_after T O_Reader__take O_read_box O_read_condition O_read_list O_read_number
  have O_read_after : Ok l.prog w K mg base 9 "read_after" ["reader", "word", "read_one"] (sp_read_after C_Reader V_read_number V_read_list V_read_condition V_read_box) := ⟨_, _, Q_read_after, m_read_after, F_read_after.kp, b_read_after⟩
  have Q_read_put := ok_read_put (P := l.prog) (w := w) (base := base) F_read_put T O_Reader__due O_read_after O_read_box O_read_number
  have O_read_put : Ok l.prog w K mg base 10 "read_put" ["reader"] (sp_read_put C_Reader) := ⟨_, _, Q_read_put, m_read_put, F_read_put.kp, b_read_put⟩
  have Q_read_drop := ok_read_drop (P := l.prog) (w := w) (base := base) F_read_drop T O_read_number
  have O_read_drop : Ok l.prog w K mg base 6 "read_drop" ["reader"] (sp_read_drop C_Reader) := ⟨_, _, Q_read_drop, m_read_drop, F_read_drop.kp, b_read_drop⟩
  have Q_read_turn := ok_read_turn (P := l.prog) (w := w) (base := base) F_read_turn T O_read_after O_read_number
  have O_read_turn : Ok l.prog w K mg base 10 "read_turn" ["reader"] (sp_read_turn C_Reader) := ⟨_, _, Q_read_turn, m_read_turn, F_read_turn.kp, b_read_turn⟩
  have Q_read_conditions := ok_read_conditions (P := l.prog) (w := w) (base := base) F_read_conditions T O_Reader__due O_Reader__take O_read_after O_read_condition
  have O_read_conditions : Ok l.prog w K mg base 10 "read_conditions" ["reader"] (sp_read_conditions C_Reader) := ⟨_, _, Q_read_conditions, m_read_conditions, F_read_conditions.kp, b_read_conditions⟩
  have Q_read_conditional := ok_read_conditional (P := l.prog) (w := w) (base := base) F_read_conditional T O_read_after O_read_conditions
  have O_read_conditional : Ok l.prog w K mg base 11 "read_conditional" ["reader"] (sp_read_conditional C_Reader) := ⟨_, _, Q_read_conditional, m_read_conditional, F_read_conditional.kp, b_read_conditional⟩
  have Q_read_nearest := ok_read_nearest (P := l.prog) (w := w) (base := base) F_read_nearest T O_read_after O_read_number
  have O_read_nearest : Ok l.prog w K mg base 10 "read_nearest" ["reader"] (sp_read_nearest C_Reader) := ⟨_, _, Q_read_nearest, m_read_nearest, F_read_nearest.kp, b_read_nearest⟩
  have Q_read_skyline := ok_read_skyline (P := l.prog) (w := w) (base := base) F_read_skyline T O_read_after
  have O_read_skyline : Ok l.prog w K mg base 10 "read_skyline" ["reader"] (sp_read_skyline C_Reader) := ⟨_, _, Q_read_skyline, m_read_skyline, F_read_skyline.kp, b_read_skyline⟩
  have Q_read_during := ok_read_during (P := l.prog) (w := w) (base := base) F_read_during T O_read_after O_read_box
  have O_read_during : Ok l.prog w K mg base 10 "read_during" ["reader"] (sp_read_during C_Reader) := ⟨_, _, Q_read_during, m_read_during, F_read_during.kp, b_read_during⟩
  have Q_read_first := ok_read_first (P := l.prog) (w := w) (base := base) F_read_first T O_Reader__due O_read_after O_read_box
  have O_read_first : Ok l.prog w K mg base 10 "read_first" ["reader"] (sp_read_first C_Reader) := ⟨_, _, Q_read_first, m_read_first, F_read_first.kp, b_read_first⟩
  have Q_read_nothing := ok_read_nothing (P := l.prog) (w := w) (base := base) F_read_nothing T 
  have O_read_nothing : Ok l.prog w K mg base 1 "read_nothing" ["_"] (sp_read_nothing C_Reader) := ⟨_, _, Q_read_nothing, m_read_nothing, F_read_nothing.kp, b_read_nothing⟩
  have Q_parse := ok_parse (P := l.prog) (w := w) (base := base) F_parse T O_Reader____init__ O_Reader__finish O_Reader__take O_read_conditional O_read_drop O_read_during O_read_first O_read_nearest O_read_nothing O_read_put O_read_skyline O_read_turn
  have O_parse : Ok l.prog w K mg base 12 "parse" ["text"] (sp_parse) := ⟨_, _, Q_parse, m_parse, F_parse.kp, b_parse⟩
  have O__law_so : Ok l.prog w K mg base 6 "_law_so" ["found", "meant"] (sp__law_so 6) := rok__law_so F__law_so T m__law_so b__law_so 6
  have Q__law_numbers := ok__law_numbers (P := l.prog) (w := w) (base := base) F__law_numbers T 
  have O__law_numbers : Ok l.prog w K mg base 1 "_law_numbers" ["script"] (sp__law_numbers K) := ⟨_, _, Q__law_numbers, m__law_numbers, F__law_numbers.kp, b__law_numbers⟩
  have Q__law_draw := ok__law_draw (P := l.prog) (w := w) (base := base) F__law_draw T 
  have O__law_draw : Ok l.prog w K mg base 1 "_law_draw" ["row", "at", "limit"] (sp__law_draw) := ⟨_, _, Q__law_draw, m__law_draw, F__law_draw.kp, b__law_draw⟩
  have Q__law_take := ok__law_take (P := l.prog) (w := w) (base := base) F__law_take T O__law_draw
  have O__law_take : Ok l.prog w K mg base 2 "_law_take" ["row", "spot", "limit"] (sp__law_take) := ⟨_, _, Q__law_take, m__law_take, F__law_take.kp, b__law_take⟩
  have Q__law_wide := ok__law_wide (P := l.prog) (w := w) (base := base) F__law_wide T O__law_take
  have O__law_wide : Ok l.prog w K mg base 3 "_law_wide" ["row", "spot", "limit"] (sp__law_wide) := ⟨_, _, Q__law_wide, m__law_wide, F__law_wide.kp, b__law_wide⟩
  have Q__law_figure := ok__law_figure (P := l.prog) (w := w) (base := base) F__law_figure T O__law_take O__law_wide
  have O__law_figure : Ok l.prog w K mg base 4 "_law_figure" ["row", "spot"] (sp__law_figure) := ⟨_, _, Q__law_figure, m__law_figure, F__law_figure.kp, b__law_figure⟩
  have Q__law_any_box := ok__law_any_box (P := l.prog) (w := w) (base := base) F__law_any_box T O__law_figure O__law_take
  have O__law_any_box : Ok l.prog w K mg base 5 "_law_any_box" ["row", "spot"] (sp__law_any_box) := ⟨_, _, Q__law_any_box, m__law_any_box, F__law_any_box.kp, b__law_any_box⟩
  have Q__law_any_list := ok__law_any_list (P := l.prog) (w := w) (base := base) F__law_any_list T O__law_figure O__law_take
  have O__law_any_list : Ok l.prog w K mg base 5 "_law_any_list" ["row", "spot", "many"] (sp__law_any_list) := ⟨_, _, Q__law_any_list, m__law_any_list, F__law_any_list.kp, b__law_any_list⟩
  have Q__law_statement := ok__law_statement (P := l.prog) (w := w) (base := base) F__law_statement T O__law_any_box O__law_any_list O__law_figure O__law_take
  have O__law_statement : Ok l.prog w K mg base 6 "_law_statement" ["row", "spot"] (sp__law_statement) := ⟨_, _, Q__law_statement, m__law_statement, F__law_statement.kp, b__law_statement⟩
  have Q__law_box_text := ok__law_box_text (P := l.prog) (w := w) (base := base) F__law_box_text T 
  have O__law_box_text : Ok l.prog w K mg base 1 "_law_box_text" ["box"] (sp__law_box_text) := ⟨_, _, Q__law_box_text, m__law_box_text, F__law_box_text.kp, b__law_box_text⟩
  have Q__law_list_text := ok__law_list_text (P := l.prog) (w := w) (base := base) F__law_list_text T 
  have O__law_list_text : Ok l.prog w K mg base 1 "_law_list_text" ["numbers"] (sp__law_list_text) := ⟨_, _, Q__law_list_text, m__law_list_text, F__law_list_text.kp, b__law_list_text⟩
  have Q__law_wants_text := ok__law_wants_text (P := l.prog) (w := w) (base := base) F__law_wants_text T O__law_box_text
  have O__law_wants_text : Ok l.prog w K mg base 2 "_law_wants_text" ["wants"] (sp__law_wants_text) := ⟨_, _, Q__law_wants_text, m__law_wants_text, F__law_wants_text.kp, b__law_wants_text⟩
  have Q__law_print := ok__law_print (P := l.prog) (w := w) (base := base) F__law_print T O__law_box_text O__law_list_text O__law_wants_text
  have O__law_print : Ok l.prog w K mg base 3 "_law_print" ["told"] (sp__law_print) := ⟨_, _, Q__law_print, m__law_print, F__law_print.kp, b__law_print⟩
  have Q__law_run := ok__law_run (P := l.prog) (w := w) (base := base) F__law_run T 
  have O__law_run : Ok l.prog w K mg base 1 "_law_run" ["text", "at", "letters"] (sp__law_run) := ⟨_, _, Q__law_run, m__law_run, F__law_run.kp, b__law_run⟩
  have Q__law_tokens := ok__law_tokens (P := l.prog) (w := w) (base := base) F__law_tokens T O__law_run
  have O__law_tokens : Ok l.prog w K mg base 2 "_law_tokens" ["text"] (sp__law_tokens) := ⟨_, _, Q__law_tokens, m__law_tokens, F__law_tokens.kp, b__law_tokens⟩
  have Q__law_expect := ok__law_expect (P := l.prog) (w := w) (base := base) F__law_expect T 
  have O__law_expect : Ok l.prog w K mg base 1 "_law_expect" ["state", "kind", "word"] (sp__law_expect) := ⟨_, _, Q__law_expect, m__law_expect, F__law_expect.kp, b__law_expect⟩
  have Q__law_is_next := ok__law_is_next (P := l.prog) (w := w) (base := base) F__law_is_next T 
  have O__law_is_next : Ok l.prog w K mg base 1 "_law_is_next" ["state", "word"] (sp__law_is_next) := ⟨_, _, Q__law_is_next, m__law_is_next, F__law_is_next.kp, b__law_is_next⟩
  have Q__law_read_list := ok__law_read_list (P := l.prog) (w := w) (base := base) F__law_read_list T O__law_expect O__law_is_next
  have O__law_read_list : Ok l.prog w K mg base 2 "_law_read_list" ["state", "pairs"] (sp__law_read_list) := ⟨_, _, Q__law_read_list, m__law_read_list, F__law_read_list.kp, b__law_read_list⟩
  have Q__law_read_after := ok__law_read_after (P := l.prog) (w := w) (base := base) F__law_read_after T O__law_expect
  have O__law_read_after : Ok l.prog w K mg base 2 "_law_read_after" ["state", "word"] (sp__law_read_after) := ⟨_, _, Q__law_read_after, m__law_read_after, F__law_read_after.kp, b__law_read_after⟩
  have Q__law_read_speed := ok__law_read_speed (P := l.prog) (w := w) (base := base) F__law_read_speed T O__law_expect O__law_is_next O__law_read_list
  have O__law_read_speed : Ok l.prog w K mg base 3 "_law_read_speed" ["state", "other"] (sp__law_read_speed) := ⟨_, _, Q__law_read_speed, m__law_read_speed, F__law_read_speed.kp, b__law_read_speed⟩
  have Q__law_read_wants := ok__law_read_wants (P := l.prog) (w := w) (base := base) F__law_read_wants T O__law_expect O__law_is_next O__law_read_list
  have O__law_read_wants : Ok l.prog w K mg base 3 "_law_read_wants" ["state"] (sp__law_read_wants) := ⟨_, _, Q__law_read_wants, m__law_read_wants, F__law_read_wants.kp, b__law_read_wants⟩
  have Q__law_read := ok__law_read (P := l.prog) (w := w) (base := base) F__law_read T O__law_expect O__law_read_after O__law_read_list O__law_read_speed O__law_read_wants
  have O__law_read : Ok l.prog w K mg base 4 "_law_read" ["state"] (sp__law_read) := ⟨_, _, Q__law_read, m__law_read, F__law_read.kp, b__law_read⟩
  have Q__law_parsed := ok__law_parsed (P := l.prog) (w := w) (base := base) F__law_parsed T O__law_expect O__law_read O__law_tokens
  have O__law_parsed : Ok l.prog w K mg base 5 "_law_parsed" ["text"] (sp__law_parsed) := ⟨_, _, Q__law_parsed, m__law_parsed, F__law_parsed.kp, b__law_parsed⟩
  have Q__law_spaced := ok__law_spaced (P := l.prog) (w := w) (base := base) F__law_spaced T O__law_take O__law_tokens
  have O__law_spaced : Ok l.prog w K mg base 3 "_law_spaced" ["row", "spot", "text"] (sp__law_spaced) := ⟨_, _, Q__law_spaced, m__law_spaced, F__law_spaced.kp, b__law_spaced⟩
  exact ok_law F_law T O__law_numbers O__law_parsed O__law_print O__law_so O__law_spaced O__law_statement O__law_take O_parse
theorem walk {l : PySem.W.OpenLaw} {q : Program} {loose : List Str} {XP : (Str → Option Value) → Heap → Prop} {YP : World → Heap → Prop} {d : DefRec} {K : Params → PySem.W.Frag} (hn : l.most = some 63) (hdf : d.params.defaults = [])
    (hY : ∀ (w : World) (h : Heap), YP w h → (K w.params).In h)
    (F : ∀ (w : World) (mg : Str → Option Value) (fa : Addr) (h : Heap), (K w.params).In h → h.Ns mainGlobals mg → mg d.name = some (.ref fa) →
      ∃ fd : FuncData, (∀ (s : Shared) (u : Value), BindsTo s fd ⟨[u], []⟩ [("script", u)]) ∧ ∀ base : Heap, (K w.params).In base → base.Ns mainGlobals mg → FnOk l.prog w (K w.params) mg base CX0 13 fa fd ["script"] (sp_law (K w.params))) :
    PySem.W.WalkO q loose XP YP l.row.toRowW d [] (fun f vs => PySem.call f vs) :=
  L2.walk_of (n := 63) (k := 13) (x := "script") (CX := fun _ => CX0) (sp := fun w => sp_law (K w.params)) hn (by decide) hdf ⟨rfl, by decide, by decide⟩ hY F (fun _ _ a ns hl hO hS => ⟨a, ns, rfl, hS, hl, fun _ => rfl⟩) fun _ _ _ _ _ z => z
end Bx
open PySem PySem.W PyProof.Rows
set_option maxRecDepth 100000 in
set_option maxHeartbeats 0 in
theorem PySem.Challenge.cw_boundstead_k95_spaces_between_tokens_holds : PySem.Challenge.rw_boundstead_k95_spaces_between_tokens.Holds := by
  w_on; o_law; k_head; (case hw => w_witness2)
  k_fill
  refine Bx.walk (l := PySem.Challenge.rw_boundstead_k95_spaces_between_tokens) rfl rfl (fun w h Y => PySem.W.kIn_of Y) ?F
  case F =>
    intro w mg fa h KX G hmg
    refine' Bx.all_mk KX G hmg ?a_run_end ?l_run_end ?c_run_end ?k_run_end ?a_token_end ?l_token_end ?c_token_end ?k_token_end ?a_is_number ?l_is_number ?c_is_number ?k_is_number ?ma_Reader____init__ ?mf_Reader____init__ ?l_Reader____init__ ?c_Reader____init__ ?k_Reader____init__ ?ma_Reader__due ?mf_Reader__due ?l_Reader__due ?c_Reader__due ?k_Reader__due ?ma_Reader__take ?mf_Reader__take ?l_Reader__take ?c_Reader__take ?k_Reader__take ?ma_Reader__take_number ?mf_Reader__take_number ?l_Reader__take_number ?c_Reader__take_number ?k_Reader__take_number ?ma_Reader__finish ?mf_Reader__finish ?l_Reader__finish ?c_Reader__finish ?k_Reader__finish ?ma_Reader___pass ?mf_Reader___pass ?l_Reader___pass ?c_Reader___pass ?k_Reader___pass ?a_read_number ?l_read_number ?c_read_number ?k_read_number ?a_read_pair ?l_read_pair ?c_read_pair ?k_read_pair ?a_read_series ?l_read_series ?c_read_series ?k_read_series ?a_read_list ?l_read_list ?c_read_list ?k_read_list ?a_read_box ?l_read_box ?c_read_box ?k_read_box ?a_read_after ?l_read_after ?c_read_after ?k_read_after ?a_read_put ?l_read_put ?c_read_put ?k_read_put ?a_read_drop ?l_read_drop ?c_read_drop ?k_read_drop ?a_read_turn ?l_read_turn ?c_read_turn ?k_read_turn ?a_read_condition ?l_read_condition ?c_read_condition ?k_read_condition ?a_read_conditions ?l_read_conditions ?c_read_conditions ?k_read_conditions ?a_read_conditional ?l_read_conditional ?c_read_conditional ?k_read_conditional ?a_read_nearest ?l_read_nearest ?c_read_nearest ?k_read_nearest ?a_read_skyline ?l_read_skyline ?c_read_skyline ?k_read_skyline ?a_read_during ?l_read_during ?c_read_during ?k_read_during ?a_read_first ?l_read_first ?c_read_first ?k_read_first ?a_read_nothing ?l_read_nothing ?c_read_nothing ?k_read_nothing ?a_parse ?l_parse ?c_parse ?k_parse ?a__law_so ?l__law_so ?c__law_so ?k__law_so ?a__law_numbers ?l__law_numbers ?c__law_numbers ?k__law_numbers ?a__law_draw ?l__law_draw ?c__law_draw ?k__law_draw ?a__law_take ?l__law_take ?c__law_take ?k__law_take ?a__law_wide ?l__law_wide ?c__law_wide ?k__law_wide ?a__law_figure ?l__law_figure ?c__law_figure ?k__law_figure ?a__law_any_box ?l__law_any_box ?c__law_any_box ?k__law_any_box ?a__law_any_list ?l__law_any_list ?c__law_any_list ?k__law_any_list ?a__law_statement ?l__law_statement ?c__law_statement ?k__law_statement ?a__law_box_text ?l__law_box_text ?c__law_box_text ?k__law_box_text ?a__law_list_text ?l__law_list_text ?c__law_list_text ?k__law_list_text ?a__law_wants_text ?l__law_wants_text ?c__law_wants_text ?k__law_wants_text ?a__law_print ?l__law_print ?c__law_print ?k__law_print ?a__law_run ?l__law_run ?c__law_run ?k__law_run ?a__law_tokens ?l__law_tokens ?c__law_tokens ?k__law_tokens ?a__law_expect ?l__law_expect ?c__law_expect ?k__law_expect ?a__law_is_next ?l__law_is_next ?c__law_is_next ?k__law_is_next ?a__law_read_list ?l__law_read_list ?c__law_read_list ?k__law_read_list ?a__law_read_after ?l__law_read_after ?c__law_read_after ?k__law_read_after ?a__law_read_speed ?l__law_read_speed ?c__law_read_speed ?k__law_read_speed ?a__law_read_wants ?l__law_read_wants ?c__law_read_wants ?k__law_read_wants ?a__law_read ?l__law_read ?c__law_read ?k__law_read ?a__law_parsed ?l__law_parsed ?c__law_parsed ?k__law_parsed ?a__law_spaced ?l__law_spaced ?c__law_spaced ?k__law_spaced ?a_law ?l_law ?c_law ?k_law ?z_ALL ?z_MOST_DIGITS ?on_Reader_at ?on_Reader_text ?km_READERS ?kl_READERS ?kk_READERS ?kz_READERS ?ky_READERS ?ke_READERS_put ?ke_READERS_drop ?ke_READERS_turn ?ke_READERS_select ?ke_READERS_count ?ke_READERS_nearest ?ke_READERS_skyline ?ke_READERS_during ?ke_READERS_first ?ke_READERS_commit ?ke_READERS_rollback ?km_WORDS ?kl_WORDS ?kv_WORDS ?z_bool ?z_int ?z_isinstance ?z_len ?z_list ?z_range ?z_str ?z_tuple ?oa_Reader ?og_Reader ?oh_Reader ?oo_Reader ?os_Reader ?om_Reader ?ok_Reader ?kv_read_box ?kv_read_condition ?kv_read_conditional ?kv_read_drop ?kv_read_during ?kv_read_first ?kv_read_list ?kv_read_nearest ?kv_read_nothing ?kv_read_number ?kv_read_pair ?kv_read_put ?kv_read_skyline ?kv_read_turn
    (case oa_Reader => k_is); (case a_run_end => k_is); (case l_run_end => k_is); (case c_run_end => k_is); (case k_run_end => k_is); (case a_token_end => k_is)
    (case l_token_end => k_is); (case c_token_end => k_is); (case k_token_end => k_is); (case a_is_number => k_is); (case l_is_number => k_is); (case c_is_number => k_is)
    (case k_is_number => k_is); (case ma_Reader____init__ => k_is); (case mf_Reader____init__ => k_is); (case l_Reader____init__ => k_is); (case c_Reader____init__ => k_is); (case k_Reader____init__ => k_is)
    (case ma_Reader__due => k_is); (case mf_Reader__due => k_is); (case l_Reader__due => k_is); (case c_Reader__due => k_is); (case k_Reader__due => k_is); (case ma_Reader__take => k_is)
    (case mf_Reader__take => k_is); (case l_Reader__take => k_is); (case c_Reader__take => k_is); (case k_Reader__take => k_is); (case ma_Reader__take_number => k_is); (case mf_Reader__take_number => k_is)
    (case l_Reader__take_number => k_is); (case c_Reader__take_number => k_is); (case k_Reader__take_number => k_is); (case ma_Reader__finish => k_is); (case mf_Reader__finish => k_is); (case l_Reader__finish => k_is)
    (case c_Reader__finish => k_is); (case k_Reader__finish => k_is); (case ma_Reader___pass => k_is); (case mf_Reader___pass => k_is); (case l_Reader___pass => k_is); (case c_Reader___pass => k_is)
    (case k_Reader___pass => k_is); (case a_read_number => k_is); (case l_read_number => k_is); (case c_read_number => k_is); (case k_read_number => k_is); (case a_read_pair => k_is)
    (case l_read_pair => k_is); (case c_read_pair => k_is); (case k_read_pair => k_is); (case a_read_series => k_is); (case l_read_series => k_is); (case c_read_series => k_is)
    (case k_read_series => k_is); (case a_read_list => k_is); (case l_read_list => k_is); (case c_read_list => k_is); (case k_read_list => k_is); (case a_read_box => k_is)
    (case l_read_box => k_is); (case c_read_box => k_is); (case k_read_box => k_is); (case a_read_after => k_is); (case l_read_after => k_is); (case c_read_after => k_is)
    (case k_read_after => k_is); (case a_read_put => k_is); (case l_read_put => k_is); (case c_read_put => k_is); (case k_read_put => k_is); (case a_read_drop => k_is)
    (case l_read_drop => k_is); (case c_read_drop => k_is); (case k_read_drop => k_is); (case a_read_turn => k_is); (case l_read_turn => k_is); (case c_read_turn => k_is)
    (case k_read_turn => k_is); (case a_read_condition => k_is); (case l_read_condition => k_is); (case c_read_condition => k_is); (case k_read_condition => k_is); (case a_read_conditions => k_is)
    (case l_read_conditions => k_is); (case c_read_conditions => k_is); (case k_read_conditions => k_is); (case a_read_conditional => k_is); (case l_read_conditional => k_is); (case c_read_conditional => k_is)
    (case k_read_conditional => k_is); (case a_read_nearest => k_is); (case l_read_nearest => k_is); (case c_read_nearest => k_is); (case k_read_nearest => k_is); (case a_read_skyline => k_is)
    (case l_read_skyline => k_is); (case c_read_skyline => k_is); (case k_read_skyline => k_is); (case a_read_during => k_is); (case l_read_during => k_is); (case c_read_during => k_is)
    (case k_read_during => k_is); (case a_read_first => k_is); (case l_read_first => k_is); (case c_read_first => k_is); (case k_read_first => k_is); (case a_read_nothing => k_is)
    (case l_read_nothing => k_is); (case c_read_nothing => k_is); (case k_read_nothing => k_is); (case a_parse => k_is); (case l_parse => k_is); (case c_parse => k_is)
    (case k_parse => k_is); (case a__law_so => k_is); (case l__law_so => k_is); (case c__law_so => k_is); (case k__law_so => k_is); (case a__law_numbers => k_is)
    (case l__law_numbers => k_is); (case c__law_numbers => k_is); (case k__law_numbers => k_is); (case a__law_draw => k_is); (case l__law_draw => k_is); (case c__law_draw => k_is)
    (case k__law_draw => k_is); (case a__law_take => k_is); (case l__law_take => k_is); (case c__law_take => k_is); (case k__law_take => k_is); (case a__law_wide => k_is)
    (case l__law_wide => k_is); (case c__law_wide => k_is); (case k__law_wide => k_is); (case a__law_figure => k_is); (case l__law_figure => k_is); (case c__law_figure => k_is)
    (case k__law_figure => k_is); (case a__law_any_box => k_is); (case l__law_any_box => k_is); (case c__law_any_box => k_is); (case k__law_any_box => k_is); (case a__law_any_list => k_is)
    (case l__law_any_list => k_is); (case c__law_any_list => k_is); (case k__law_any_list => k_is); (case a__law_statement => k_is); (case l__law_statement => k_is); (case c__law_statement => k_is)
    (case k__law_statement => k_is); (case a__law_box_text => k_is); (case l__law_box_text => k_is); (case c__law_box_text => k_is); (case k__law_box_text => k_is); (case a__law_list_text => k_is)
    (case l__law_list_text => k_is); (case c__law_list_text => k_is); (case k__law_list_text => k_is); (case a__law_wants_text => k_is); (case l__law_wants_text => k_is); (case c__law_wants_text => k_is)
    (case k__law_wants_text => k_is); (case a__law_print => k_is); (case l__law_print => k_is); (case c__law_print => k_is); (case k__law_print => k_is); (case a__law_run => k_is)
    (case l__law_run => k_is); (case c__law_run => k_is); (case k__law_run => k_is); (case a__law_tokens => k_is); (case l__law_tokens => k_is); (case c__law_tokens => k_is)
    (case k__law_tokens => k_is); (case a__law_expect => k_is); (case l__law_expect => k_is); (case c__law_expect => k_is); (case k__law_expect => k_is); (case a__law_is_next => k_is)
    (case l__law_is_next => k_is); (case c__law_is_next => k_is); (case k__law_is_next => k_is); (case a__law_read_list => k_is); (case l__law_read_list => k_is); (case c__law_read_list => k_is)
    (case k__law_read_list => k_is); (case a__law_read_after => k_is); (case l__law_read_after => k_is); (case c__law_read_after => k_is); (case k__law_read_after => k_is); (case a__law_read_speed => k_is)
    (case l__law_read_speed => k_is); (case c__law_read_speed => k_is); (case k__law_read_speed => k_is); (case a__law_read_wants => k_is); (case l__law_read_wants => k_is); (case c__law_read_wants => k_is)
    (case k__law_read_wants => k_is); (case a__law_read => k_is); (case l__law_read => k_is); (case c__law_read => k_is); (case k__law_read => k_is); (case a__law_parsed => k_is)
    (case l__law_parsed => k_is); (case c__law_parsed => k_is); (case k__law_parsed => k_is); (case a__law_spaced => k_is); (case l__law_spaced => k_is); (case c__law_spaced => k_is)
    (case k__law_spaced => k_is); (case a_law => k_is); (case l_law => k_is); (case c_law => k_is); (case k_law => k_is); (case z_ALL => k_is)
    (case z_MOST_DIGITS => k_is); (case on_Reader_at => k_is); (case on_Reader_text => k_is); (case km_READERS => k_is); (case kl_READERS => k_is); (case kk_READERS => (repeat (refine ⟨⟨_, _, rfl, rfl⟩, ?_⟩)); exact trivial)
    (case kz_READERS => rfl); (case ky_READERS => exact ⟨Nat.le_of_ble_eq_true rfl, .cons ⟨_, rfl⟩ (.cons ⟨_, rfl⟩ (.cons ⟨_, rfl⟩ (.cons ⟨_, rfl⟩ (.cons ⟨_, rfl⟩ (.cons ⟨_, rfl⟩ (.cons ⟨_, rfl⟩ (.cons ⟨_, rfl⟩ (.cons ⟨_, rfl⟩ (.cons ⟨_, rfl⟩ (.cons ⟨_, rfl⟩ (.nil)))))))))))⟩); (case ke_READERS_put => k_is); (case ke_READERS_drop => k_is); (case ke_READERS_turn => k_is); (case ke_READERS_select => k_is)
    (case ke_READERS_count => k_is); (case ke_READERS_nearest => k_is); (case ke_READERS_skyline => k_is); (case ke_READERS_during => k_is); (case ke_READERS_first => k_is); (case ke_READERS_commit => k_is)
    (case ke_READERS_rollback => k_is); (case km_WORDS => k_is); (case kl_WORDS => k_is); (case kv_WORDS => exact ⟨by decide, .cons ⟨_, rfl⟩ (.cons ⟨_, rfl⟩ (.cons ⟨_, rfl⟩ (.nil)))⟩); (case z_bool => k_is); (case z_int => k_is)
    (case z_isinstance => k_is); (case z_len => k_is); (case z_list => k_is); (case z_range => k_is); (case z_str => k_is); (case z_tuple => k_is)
    (case og_Reader => k_is); (case oh_Reader => k_is); (case oo_Reader => k_is); (case os_Reader => k_is); (case om_Reader => k_is); (case ok_Reader => k_is)
    (case kv_read_box => k_is); (case kv_read_condition => k_is); (case kv_read_conditional => k_is); (case kv_read_drop => k_is); (case kv_read_during => k_is); (case kv_read_first => k_is)
    (case kv_read_list => k_is); (case kv_read_nearest => k_is); (case kv_read_nothing => k_is); (case kv_read_number => k_is); (case kv_read_pair => k_is); (case kv_read_put => k_is)
    (case kv_read_skyline => k_is); (case kv_read_turn => k_is)
