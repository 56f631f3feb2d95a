import PyProof.Rows.All
import Wide.All
import OpenK.AllK
import Wide.FinOn
import HandS.ForMost
import HandS.ForExc
import HandS.IsInst
import HandS.TupAny
import HandS.TupMul
import HandS.Zip
import HandS.Star
import HandS.Flt
import HandS.Defaults
import HandS.Gcd
import HandS.Wide
import HandS.ExcOwn
import HandS.Dict
import HandS.Small
import HandS.Text
import HandS.StrMore
import HandS.Codes
import PyProof.StrOps2
import HandS.Translate
import HandS.TupMul
import HandS.TryOnly
import HandS.More
import PySem.Challenge.RW_boundstead_k34_limits_take_disks_down
set_option Elab.async false
set_option linter.all false
set_option maxRecDepth 100000
namespace Bx
open PySem L2
section
variable {X : Cx}
/-! ### joined rules -/
def rAddX (K : PySem.W.Frag) : R2 := fun x y H Q => (∃ i j, x = .int i ∧ y = .int j ∧ Q (.int (i + j)) H) ∨ rCat x y H Q ∨ rCatA K x y H Q
theorem op_addX : OpR X (binaryOp .Add) (rAddX X.K) := op_add.or (op_cat.or op_catA)
def rMulX (K : PySem.W.Frag) : R2 := fun x y H Q => (∃ i j, x = .int i ∧ y = .int j ∧ IntMulOk i j ∧ Q (.int (i * j)) H) ∨ rRepT K x y H Q
theorem op_mulA : OpR X (binaryOp .Mult) (rI IntMulOk fun i j => .int (i * j)) := opI fun _ _ _ _ _ _ _ hc q => PyProof.Rows.mul_int q hc
theorem op_mulX : OpR X (binaryOp .Mult) (rMulX X.K) := op_mulA.or op_repT
def rEqX (K : PySem.W.Frag) : R2 := fun x y H Q => rEq x y H Q ∨ rEqD K x y H Q
theorem op_eqX (hu : X.A.units + 64 < cLine) : OpR X (compareOp .Eq) (rEqX X.K) := op_eq.or (op_eqD hu)
def rNeX (K : PySem.W.Frag) : R2 := fun x y H Q => rNe x y H Q ∨ rNeD K x y H Q
theorem op_neX (hu : X.A.units + 64 < cLine) : OpR X (compareOp .NotEq) (rNeX X.K) := op_ne.or (op_neD hu)
def rIxX (K : PySem.W.Frag) : R2 := fun x y H Q => rIxL K x y H Q ∨ rIxT K x y H Q
theorem ix_X : IxR X (rIxX X.K) := ix_list.or ix_tup
def rSlX (K : PySem.W.Frag) : V → Option Int → Option Int → Hp → VK → Prop := fun x lo hi H Q => rSlL K x lo hi H Q ∨ rSlA K x lo hi H Q
theorem sl_X : SlR X (rSlX X.K) := sl_list.or sl_tupA
def gX (K : PySem.W.Frag) (n : Nat) (t : TGs) : TG := fun v σ H Q => gTup K n t v σ H Q ∨ gLst K n t v σ H Q
theorem pg_X {es : List Expr} {k : Nat} {t : TGs} {n : Nat} {pos : Pos} (hc : X.calm = true) (h : PGs X es t)
    (hn : (assignEach es X.env).length = n := by rfl) (hst : (assignEach es X.env).findIdx? (·.1) = none := by rfl) : PG X (.Tuple es k pos) (gX X.K n t) :=
  ⟨fun pins s σ H v u Q I r q => q.elim (fun q => (pg_tup hc h hn hst).run pins s σ H v u Q I r q) fun q => (pg_lst hc h hn hst).run pins s σ H v u Q I r q⟩
/-- a list or a tuple walked -/
def iX (K : PySem.W.Frag) (tl : TE) : TI := fun σ H R => tl σ H fun x H1 => ∃ a, x = .ref a ∧ (((∃ xs, SqL K H1 a xs) ∧ R (Itl K a) H1) ∨ ((∃ xs, SqT K H1 a xs) ∧ R (Itt K a) H1))
theorem pi_X {tg l : Expr} {tl : TE} (hl : PE X l tl) : PI X tg l (iX X.K tl) := by
  refine ⟨fun pins s σ H R I h => ?_⟩
  refine thn (hl.run pins s σ H _ I h) fun v s1 ⟨x, H1, I1, r1, q1⟩ => ?_
  obtain ⟨a, e, q⟩ := q1
  subst e
  cases r1
  rcases q with ⟨⟨xs, hq⟩, q⟩ | ⟨⟨xs, hq⟩, q⟩
  · obtain ⟨its, rv, p, hz⟩ := I1.list hq
    refine wpAny_pyIter_list p.isList ?_
    refine ⟨s1.heap.objs.size, [s1.heap.objs.size], _, _, H1, rfl, I1.kept (t' := s1.toks) fun b o e => Heap.get?_push_of_some _ e, turn_list a _, ⟨_, Heap.get?_push_size _ rfl, rfl, rfl⟩, fun b hb => ?_, q⟩
    have e : b = s1.heap.objs.size := by simpa using hb
    subst e
    exact I1.fpOk (Nat.le_refl _) (I1.hok.fresh (Nat.le_refl _))
  · obtain ⟨its, rv, p, hz⟩ := I1.tuple hq
    refine wpAny_pyIter_tuple (show s1.heap.IsTuple a its.toArray from p) ?_
    refine ⟨s1.heap.objs.size, [s1.heap.objs.size], _, _, H1, rfl, I1.kept (t' := s1.toks) fun b o e => Heap.get?_push_of_some _ e, turn_tuple a _, ⟨_, Heap.get?_push_size _ rfl, rfl, rfl⟩, fun b hb => ?_, q⟩
    have e : b = s1.heap.objs.size := by simpa using hb
    subst e
    exact I1.fpOk (Nat.le_refl _) (I1.hok.fresh (Nat.le_refl _))
end
/-! ### named rules -/
section
variable {X : Cx}
def rSub : R2 := fun x y H Q => ∃ i j, x = .int i ∧ y = .int j ∧ Q (.int (i - j)) H
theorem o_sub : OpR X (binaryOp .Sub) rSub := op_sub
def CDivA (_ j : Int) : Prop := j ≠ 0 ∧ j.natAbs.log2 < 9000
def rFdv : R2 := fun x y H Q => ∃ i j, x = .int i ∧ y = .int j ∧ CDivA i j ∧ Q (.int (i.fdiv j)) H
theorem o_fdiv : OpR X (binaryOp .FloorDiv) rFdv := opI (C := CDivA) (g := fun i j => i.fdiv j) fun i j _ _ _ _ _ hc q => PyProof.Rows.floordiv_int hc.1 q (.inl (PyProof.noPylong_of_log2 hc.2))
def rModI : R2 := fun x y H Q => ∃ i j, x = .int i ∧ y = .int j ∧ 0 < j ∧ Q (.int (i % j)) H
theorem o_mod : OpR X (binaryOp .Mod) rModI := op_mod
def rPow : R2 := fun x y H Q => ∃ i j, x = .int i ∧ y = .int j ∧ CPow i j ∧ Q (.int (i ^ j.toNat)) H
theorem o_pow : OpR X (binaryOp .Pow) rPow := op_pow
def rLt : R2 := fun x y H Q => ∃ i j, x = .int i ∧ y = .int j ∧ Q (.bl (decide (i < j))) H
theorem o_lt : OpR X (compareOp .Lt) rLt := op_lt
def rLe : R2 := fun x y H Q => ∃ i j, x = .int i ∧ y = .int j ∧ Q (.bl (decide (i ≤ j))) H
theorem o_le : OpR X (compareOp .LtE) rLe := op_le
def rGt : R2 := fun x y H Q => ∃ i j, x = .int i ∧ y = .int j ∧ Q (.bl (decide (j < i))) H
theorem o_gt : OpR X (compareOp .Gt) rGt := op_gt
def rGe : R2 := fun x y H Q => ∃ i j, x = .int i ∧ y = .int j ∧ Q (.bl (decide (j ≤ i))) H
theorem o_ge : OpR X (compareOp .GtE) rGe := op_ge
def rNeg : V → Hp → VK → Prop := fun x H Q => ∃ i, x = .int i ∧ Q (.int (-i)) H
theorem u_neg : UnR X (unaryOp .USub) rNeg := un_neg
def rIsNon : R2 := fun x y H Q => y = .non ∧ Q (.bl (decide (x = .non))) H
theorem o_isN : OpR X (compareOp .Is) rIsNon := op_isN
def rNotNon : R2 := fun x y H Q => y = .non ∧ Q (.bl (!decide (x = .non))) H
theorem o_notN : OpR X (compareOp .IsNot) rNotNon := op_notN
def rLen (K : PySem.W.Frag) : List V → Hp → VK → Prop := fun xs H Q => ∃ p ys, xs = [.ref p] ∧ (SqL K H p ys ∨ SqT K H p ys) ∧ Q (.int ys.length) H
theorem c_len : CallR X (.builtin "len") (rLen X.K) := call_len_seq
def rAbs : List V → Hp → VK → Prop := fun xs H Q => ∃ i, xs = [.int i] ∧ Q (.int (if i < 0 then -i else i)) H
theorem c_abs : CallR X (.builtin "abs") rAbs := call_abs
def rIntO : List V → Hp → VK → Prop := fun xs H Q => (∃ i, xs = [.int i] ∧ Q (.int i) H) ∨ ∃ k, xs = [.bl k] ∧ Q (.int (if k then 1 else 0)) H
theorem c_int : CallR X (.type "int") rIntO := call_int1
def rTupOf (K : PySem.W.Frag) : List V → Hp → VK → Prop := fun xs H Q => ∃ p ys, xs = [.ref p] ∧ ((SqL K H p ys ∧ ∀ l, H l = none → Q (.ref l) (upd H l (.tup ys))) ∨ (SqT K H p ys ∧ Q (.ref p) H))
theorem c_tuple : CallR X (.type "tuple") (rTupOf X.K) := call_tuple_of
def rMx2 : List V → Hp → VK → Prop := fun xs H Q => ∃ i j, xs = [.int i, .int j] ∧ Q (.int (if j > i then j else i)) H
theorem c_max2 (hc : X.calm = true) : CallR X (.builtin "max") rMx2 := call_max2 hc
def rMn2 : List V → Hp → VK → Prop := fun xs H Q => ∃ i j, xs = [.int i, .int j] ∧ Q (.int (if j < i then j else i)) H
theorem c_min2 (hc : X.calm = true) : CallR X (.builtin "min") rMn2 := call_min2 hc
def rMx3 : List V → Hp → VK → Prop := rNuC3 nuMax3
theorem c_max3 (hc : X.calm = true) : CallR X (.builtin "max") rMx3 := call_max3Nu hc
end
/-- ways joined behind a statement -/
def tCut (t u : TS) : TS := fun D σ H => ∃ Mid : L2.St → Hp → Prop, t { D with nx := Mid } σ H ∧ ∀ σ' H', Mid σ' H' → u D σ' H'
theorem pss_cut {X : Cx} {st : Stmt} {rest : List Stmt} {t u : TS} (h1 : PS X st t) (h2 : PSs X rest u) : PSs X (st :: rest) (tCut t u) := by
  refine ⟨fun pins s σ H D I h => ?_⟩
  obtain ⟨Mid, hm, hu⟩ := h
  refine wpAny_execs_cons (thn (h1.run pins s σ H { D with nx := Mid } I hm) fun f s1 q => ?_)
  cases f with
  | next =>
    obtain ⟨σ', H', I', q⟩ := q
    exact h2.run pins s1 σ' H' D I' (hu σ' H' q)
  | ret v => exact q
  | brk => exact q
  | cont => exact q
/-! ### defs as a bundle, their calls -/
structure Ok (P : Program) (w : World) (K : PySem.W.Frag) (mg : Str → Option Value) (base : Heap) (k : Nat) (x : Str) (ps : List Str) (sp : Sp) : Prop where
  ex : ∃ f fd, FnOk P w K mg base CX0 k f fd ps sp ∧ mg x = some (.ref f) ∧ PySem.W.keepIn K (.ref f) = true ∧ Binds K fd ps []
theorem Ok.imp {P : Program} {w : World} {K : PySem.W.Frag} {mg : Str → Option Value} {base : Heap} {k : Nat} {x : Str} {ps : List Str} {sp sp' : Sp} (O : Ok P w K mg base k x ps sp) (h : ∀ vs H Q E, sp' vs H Q E → sp vs H Q E) : Ok P w K mg base k x ps sp' := by
  obtain ⟨f, fd, F, a, b, c⟩ := O.ex
  exact ⟨f, fd, F.imp h, a, b, c⟩
def tCallO (sp : Sp) (t : TA) : TE := fun σ H Q => t σ H fun vs H1 => sp vs H1 Q E0
theorem pe_cO {X : Cx} {k : Nat} {x : Str} {ps : List Str} {sp : Sp} {e : Expr} {es : List Expr} {t : TA} {p pos : Pos} (O : Ok X.prog X.w X.K X.mg X.base k x ps sp) (hr : Room k X.A) (hg : Gl X x) (ha : PA X (e :: es) t)
    (hdb : (x == ("__debug__" : Str)) = false := by decide) (he : starEach (e :: es) X.env = (false, eval e X.env) :: starEach es X.env := by rfl) (hpl : (backTo pos (starEach es X.env)).any (·.1) = false := by rfl) :
    PE X (.Call (.Name x p) (e :: es) [] pos) (tCallO sp t) := by
  obtain ⟨f, fd, F, hm, hk, hb⟩ := O.ex
  refine ⟨fun pins s σ H Q I h => (pe_call (E := E0) F hr hg hm hk hb .nil pass0 ha hdb he hpl).run pins s σ H Q I ?_⟩
  have e1 : (fun (vs : List V) H1 => sp (vs ++ []) H1 Q E0) = fun vs H1 => sp vs H1 Q E0 := by
    funext vs H1
    rw [List.append_nil]
  show t σ H fun vs H1 => sp (vs ++ []) H1 Q E0
  rw [e1]
  exact h
/-- with keywords: n places, then the names ks; idx says where each further parameter's value stands among them -/
structure OkK (P : Program) (w : World) (K : PySem.W.Frag) (mg : Str → Option Value) (base : Heap) (k : Nat) (x : Str) (ps : List Str) (sp : Sp) (n : Nat) (ks : List Str) (idx : List Nat) : Prop where
  ex : ∃ f fd, FnOk P w K mg base CX0 k f fd ps sp ∧ mg x = some (.ref f) ∧ PySem.W.keepIn K (.ref f) = true ∧
    ∀ us ws : List Value, us.length = n → ws.length = ks.length → bindArgs fd ⟨us, ks.zip ws⟩ = pure (ps.zip (us ++ idx.map fun i => ws.getD i .none))
theorem vals_getD : ∀ {zs : List V} {ws : List Value} (_ : Vals zs ws) (i : Nat), RelV (zs.getD i .non) (ws.getD i .none)
  | _, _, .nil, i => by
    show Value.none = Value.none
    rfl
  | _, _, .cons r rs, 0 => r
  | _, _, .cons r rs, i + 1 => vals_getD rs i
theorem vals_idx {zs : List V} {ws : List Value} (h : Vals zs ws) : ∀ idx : List Nat, Vals (idx.map fun i => zs.getD i .non) (idx.map fun i => ws.getD i .none)
  | [] => .nil
  | i :: l => .cons (vals_getD h i) (vals_idx h l)
theorem OkK.kbn {P : Program} {w : World} {K : PySem.W.Frag} {mg : Str → Option Value} {base : Heap} {k n : Nat} {x : Str} {ps ks : List Str} {sp : Sp} {idx : List Nat} (O : OkK P w K mg base k x ps sp n ks idx) :
    ∃ f fd, FnOk P w K mg base CX0 k f fd ps sp ∧ mg x = some (.ref f) ∧ PySem.W.keepIn K (.ref f) = true ∧ KBn K fd ps n ks (fun us ws => us ++ idx.map fun i => ws.getD i .none) (fun vs zs => vs ++ idx.map fun i => zs.getD i .non) := by
  obtain ⟨f, fd, F, a, b, c⟩ := O.ex
  exact ⟨f, fd, F, a, b, fun s us ws _ h1 h2 => .of_eq (c us ws h1 h2), fun r1 r2 => r1.append (vals_idx r2 idx)⟩
def tCallOK (n m : Nat) (sp : Sp) (idx : List Nat) (t tk : TA) : TE := fun σ H Q => t σ H fun vs H1 => tk σ H1 fun zs H2 => vs.length = n ∧ zs.length = m ∧ sp (vs ++ idx.map fun i => zs.getD i .non) H2 Q E0
section
variable {X : Cx} {k n : Nat} {x : Str} {ps ks : List Str} {sp : Sp} {idx : List Nat} {e : Expr} {es : List Expr} {kws : List Keyword} {t tk : TA} {p pos : Pos}
theorem pe_cK {m : Nat} (O : OkK X.prog X.w X.K X.mg X.base k x ps sp n ks idx) (hr : Room k X.A) (hg : Gl X x) (ha : PA X (e :: es) t) (hkw : PK X kws tk)
    (hall : (backToKw pos (keywordEach kws X.env)).all (·.1.isSome) = true := by rfl) (hks : (backToKw pos (keywordEach kws X.env)).filterMap (·.1) = ks := by rfl)
    (hdb : (x == ("__debug__" : Str)) = false := by decide) (hm : ks.length = m := by rfl) (he : starEach (e :: es) X.env = (false, eval e X.env) :: starEach es X.env := by rfl)
    (hpl : ((backTo pos (starEach (e :: es) X.env)).any (·.1) || (backToKw pos (keywordEach kws X.env)).any (·.1.isNone)) = false := by rfl) :
    PE X (.Call (.Name x p) (e :: es) kws pos) (tCallOK n m sp idx t tk) := by
  subst hm
  obtain ⟨f, fd, F, hmg, hk, hb⟩ := O.kbn
  exact pe_callN F hr hg hmg hk hb pass0 ha hkw hall hks hdb he hpl
theorem pe_cK0 {m : Nat} (O : OkK X.prog X.w X.K X.mg X.base k x ps sp 0 ks idx) (hr : Room k X.A) (hg : Gl X x) (hkw : PK X kws tk)
    (hall : (backToKw pos (keywordEach kws X.env)).all (·.1.isSome) = true := by rfl) (hks : (backToKw pos (keywordEach kws X.env)).filterMap (·.1) = ks := by rfl)
    (hdb : (x == ("__debug__" : Str)) = false := by decide) (hm : ks.length = m := by rfl) (hpl : ((backTo pos (starEach [] X.env)).any (·.1) || (backToKw pos (keywordEach kws X.env)).any (·.1.isNone)) = false := by rfl) :
    PE X (.Call (.Name x p) [] kws pos) (tCallOK 0 m sp idx tNil tk) := by
  subst hm
  obtain ⟨f, fd, F, hmg, hk, hb⟩ := O.kbn
  refine ⟨fun pins s σ H Q I h => ?_⟩
  refine wpAny_Call_Name_kw (ld_glob I hg hmg ?_ hdb)
  refine PySem.W.callWith_KW0 (h₀ := X.base) I.ok.mod.kin hk hall ?_ hpl
  refine thn (hkw.run pos pins s σ H _ I h) fun ws s2 ⟨zs, H2, I2, rz, l1, l2, q2⟩ => ⟨I2.kIn, ?_⟩
  rw [hks]
  exact run_fnN (us := []) F hr hb pass0 I2 .nil rz l1 l2 q2
end
/-! ### defs that may raise -/
structure OkX (P : Program) (w : World) (K : PySem.W.Frag) (mg : Str → Option Value) (base : Heap) (k : Nat) (x : Str) (ps : List Str) (sp : Sp) : Prop where
  ex : ∃ f fd, FnOk P w K mg base (L2.CX P w) k f fd ps sp ∧ mg x = some (.ref f) ∧ PySem.W.keepIn K (.ref f) = true ∧ Binds K fd ps []
structure OkXK (P : Program) (w : World) (K : PySem.W.Frag) (mg : Str → Option Value) (base : Heap) (k : Nat) (x : Str) (ps : List Str) (sp : Sp) (n : Nat) (ks : List Str) (idx : List Nat) : Prop where
  ex : ∃ f fd, FnOk P w K mg base (L2.CX P w) k f fd ps sp ∧ mg x = some (.ref f) ∧ PySem.W.keepIn K (.ref f) = true ∧
    ∀ us ws : List Value, us.length = n → ws.length = ks.length → bindArgs fd ⟨us, ks.zip ws⟩ = pure (ps.zip (us ++ idx.map fun i => ws.getD i .none))
theorem OkXK.kbn {P : Program} {w : World} {K : PySem.W.Frag} {mg : Str → Option Value} {base : Heap} {k n : Nat} {x : Str} {ps ks : List Str} {sp : Sp} {idx : List Nat} (O : OkXK P w K mg base k x ps sp n ks idx) :
    ∃ f fd, FnOk P w K mg base (L2.CX P w) k f fd ps sp ∧ mg x = some (.ref f) ∧ PySem.W.keepIn K (.ref f) = true ∧ KBn K fd ps n ks (fun us ws => us ++ idx.map fun i => ws.getD i .none) (fun vs zs => vs ++ idx.map fun i => zs.getD i .non) := by
  obtain ⟨f, fd, F, a, b, c⟩ := O.ex
  exact ⟨f, fd, F, a, b, fun s us ws _ h1 h2 => .of_eq (c us ws h1 h2), fun r1 r2 => r1.append (vals_idx r2 idx)⟩
section
variable {X : Cx} {k n : Nat} {x : Str} {ps ks : List Str} {sp : Sp} {idx : List Nat} {e : Expr} {es : List Expr} {kws : List Keyword} {t tk : TA} {p pos : Pos} {W : WX}
/-- called where nothing is raised -/
theorem pe_cX (O : OkX X.prog X.w X.K X.mg X.base k x ps sp) (hr : Room k X.A) (hg : Gl X x) (ha : PA X (e :: es) t)
    (hdb : (x == ("__debug__" : Str)) = false := by decide) (he : starEach (e :: es) X.env = (false, eval e X.env) :: starEach es X.env := by rfl) (hpl : (backTo pos (starEach es X.env)).any (·.1) = false := by rfl) :
    PE X (.Call (.Name x p) (e :: es) [] pos) (tCallO sp t) := by
  obtain ⟨f, fd, F, hm, hk, hb⟩ := O.ex
  refine ⟨fun pins s σ H Q I h => (pe_call (E := E0) F hr hg hm hk hb .nil passL ha hdb he hpl).run pins s σ H Q I ?_⟩
  have e1 : (fun (vs : List V) H1 => sp (vs ++ []) H1 Q E0) = fun vs H1 => sp vs H1 Q E0 := by
    funext vs H1
    rw [List.append_nil]
  show t σ H fun vs H1 => sp (vs ++ []) H1 Q E0
  rw [e1]
  exact h
/-- called in a try's body (or where what is raised goes on): W, the wish -/
theorem pe_cXS (O : OkX X.prog X.w X.K X.mg X.base k x ps sp) (hr : Room k X.A) (hg : Gl X x) (tkk : Takes X W) (ha : PA X (e :: es) t)
    (hdb : (x == ("__debug__" : Str)) = false := by decide) (he : starEach (e :: es) X.env = (false, eval e X.env) :: starEach es X.env := by rfl) (hpl : (backTo pos (starEach es X.env)).any (·.1) = false := by rfl) :
    PE X (.Call (.Name x p) (e :: es) [] pos) (tCallS sp (WE W) t) := by
  obtain ⟨f, fd, F, hm, hk, hb⟩ := O.ex
  exact pe_callS F hr hg hm hk hb (fun σ => passAt tkk σ) ha hdb he hpl
def tCallSK (n m : Nat) (sp : Sp) (idx : List Nat) (E : L2.St → XK) (t tk : TA) : TE := fun σ H Q => t σ H fun vs H1 => tk σ H1 fun zs H2 => vs.length = n ∧ zs.length = m ∧ sp (vs ++ idx.map fun i => zs.getD i .non) H2 Q (E σ)
theorem run_fnSK {pins : List (Addr × Obj)} {σ : L2.St} {H : Hp} {s : Shared} {Q : VK} {us ws : List Value} {vs zs : List V} {f : Addr} {fd : FuncData} {g : List Value → List Value → List Value} {gV : List V → List V → List V} (F : FnOk X.prog X.w X.K X.mg X.base (L2.CX X.prog X.w) k f fd ps sp) (hr : Room k X.A) (hb : KBn X.K fd ps n ks g gV) (tkk : Takes X W)
    (I : Inv X pins σ H s) (r : Vals vs us) (rz : Vals zs ws) (l1 : vs.length = n) (l2 : zs.length = ks.length) (h : sp (gV vs zs) H Q (WE W σ)) : wpAny (model X.prog X.w) X.A (call (.ref f) us (ks.zip ws)) (EP X pins σ Q) X.xe s := by
  have r2 := hb.rel r rz
  refine wpAny_call (codeAny_mono (F.run X.A X.stack s H ⟨us, ks.zip ws⟩ (g us ws) (gV vs zs) Q (WE W σ) hr I.env0 (hb.to s us ws I.kIn (r.length.symm.trans l1) (rz.length.symm.trans l2)) r2 h) fun r s' hq => ?_)
  cases r with
  | error e => exact passAt tkk σ pins H s e s' I hq
  | ok fl =>
    cases fl with
    | ret u => exact I.after hq
    | next => exact False.elim hq
    | brk => exact False.elim hq
    | cont => exact False.elim hq
theorem pe_cXSK0 {m : Nat} (O : OkXK X.prog X.w X.K X.mg X.base k x ps sp 0 ks idx) (hr : Room k X.A) (hg : Gl X x) (tkk : Takes X W) (hkw : PK X kws tk)
    (hall : (backToKw pos (keywordEach kws X.env)).all (·.1.isSome) = true := by rfl) (hks : (backToKw pos (keywordEach kws X.env)).filterMap (·.1) = ks := by rfl)
    (hdb : (x == ("__debug__" : Str)) = false := by decide) (hm : ks.length = m := by rfl) (hpl : ((backTo pos (starEach [] X.env)).any (·.1) || (backToKw pos (keywordEach kws X.env)).any (·.1.isNone)) = false := by rfl) :
    PE X (.Call (.Name x p) [] kws pos) (tCallSK 0 m sp idx (WE W) tNil tk) := by
  subst hm
  obtain ⟨f, fd, F, hmg, hk, hb⟩ := O.kbn
  refine ⟨fun pins s σ H Q I h => ?_⟩
  refine wpAny_Call_Name_kw (ld_glob I hg hmg ?_ hdb)
  refine PySem.W.callWith_KW0 (h₀ := X.base) I.ok.mod.kin hk hall ?_ hpl
  refine thn (hkw.run pos pins s σ H _ I h) fun ws s2 ⟨zs, H2, I2, rz, l1, l2, q2⟩ => ⟨I2.kIn, ?_⟩
  rw [hks]
  exact run_fnSK (us := []) F hr hb tkk I2 .nil rz l1 l2 q2
/-- try: body / except C as n: suite -/
def tTry (K : PySem.W.Frag) (C : Addr) (i : Nat) (tb : WX → TS) (ts : Addr → Value → Option Addr → TS) (Wo : WX) : TS := fun D σ H => tb (wAs K (.ref C) i ts Wo D) D σ H
end
end Bx
namespace Bx
open PySem L2
def isB (x : V) (H : Hp) (Q : Bool → Hp → Prop) : Prop := ∃ k, x = .bl k ∧ Q k H
section
variable {σ σ' : L2.St} {H : Hp} {Q : VK} {QB : Bool → Hp → Prop} {QA : List V → Hp → Prop} {QO : Option Int → Hp → Prop} {v w : V} {ta tb tc te : TE} {t u : TT} {tr : TA} {tl th : TO} {K : PySem.W.Frag} {n b c : L2.St → Hp → Prop} {r : VK} {k : Bool} {i j : Int} {A B : Prop} {p a : Addr} {xs ys : List V} {ts tu : TS}
theorem x_var {i : Nat} (h : σ[i]? = some (some v)) (q : Q v H) : tVar i σ H Q := ⟨v, h, q⟩
theorem x_c (q : Q v H) : tC v σ H Q := q
theorem x_op {f : R2} (q : ta σ H fun x H1 => tb σ H1 fun y H2 => f x y H2 Q) : tOp f ta tb σ H Q := q
theorem x_un {f : V → Hp → VK → Prop} (q : ta σ H fun x H1 => f x H1 Q) : tUn f ta σ H Q := q
theorem x_sub (q : Q (.int (i - j)) H) : rSub (.int i) (.int j) H Q := ⟨i, j, rfl, rfl, q⟩
theorem x_fdvA (h0 : j ≠ 0) {m : Nat} (hb : j.natAbs < 2 ^ m) (hm : m ≤ 9000) (q : Q (.int (i.fdiv j)) H) : rFdv (.int i) (.int j) H Q := ⟨i, j, rfl, rfl, ⟨h0, by
  have z := (Nat.log2_lt (n := j.natAbs) (k := m) (by omega)).mpr hb
  omega⟩, q⟩
theorem x_fdv (h : 0 < j ∧ j < 1073741824) (q : Q (.int (i / j)) H) : rFdv (.int i) (.int j) H Q := x_fdvA (m := 30) (by omega) (by show j.natAbs < 1073741824; omega) (by decide) (by rw [Int.fdiv_eq_ediv_of_nonneg i (by omega)]; exact q)
theorem x_mod (h : 0 < j) (q : Q (.int (i % j)) H) : rModI (.int i) (.int j) H Q := ⟨i, j, rfl, rfl, h, q⟩
theorem x_pow (h : 0 ≤ j ∧ j ≤ 1000000 ∧ i.natAbs < 2 ^ 64) (q : Q (.int (i ^ j.toNat)) H) : rPow (.int i) (.int j) H Q := ⟨i, j, rfl, rfl, h, q⟩
theorem x_lt (q : Q (.bl (decide (i < j))) H) : rLt (.int i) (.int j) H Q := ⟨i, j, rfl, rfl, q⟩
theorem x_le (q : Q (.bl (decide (i ≤ j))) H) : rLe (.int i) (.int j) H Q := ⟨i, j, rfl, rfl, q⟩
theorem x_gt (q : Q (.bl (decide (j < i))) H) : rGt (.int i) (.int j) H Q := ⟨i, j, rfl, rfl, q⟩
theorem x_ge (q : Q (.bl (decide (j ≤ i))) H) : rGe (.int i) (.int j) H Q := ⟨i, j, rfl, rfl, q⟩
theorem x_neg (q : Q (.int (-i)) H) : rNeg (.int i) H Q := ⟨i, rfl, q⟩
theorem x_isN (q : Q (.bl (decide (v = .non))) H) : rIsNon v .non H Q := ⟨rfl, q⟩
theorem x_notN (q : Q (.bl (!decide (v = .non))) H) : rNotNon v .non H Q := ⟨rfl, q⟩
theorem x_abs (q : Q (.int (if i < 0 then -i else i)) H) : rAbs [.int i] H Q := ⟨i, rfl, q⟩
theorem x_int1 (q : Q (.int i) H) : rIntO [.int i] H Q := .inl ⟨i, rfl, q⟩
theorem x_max2 (q : Q (.int (if j > i then j else i)) H) : rMx2 [.int i, .int j] H Q := ⟨i, j, rfl, q⟩
theorem x_min2 (q : Q (.int (if j < i then j else i)) H) : rMn2 [.int i, .int j] H Q := ⟨i, j, rfl, q⟩
theorem x_tupL (h : SqL K H p xs) (q : ∀ l, H l = none → Q (.ref l) (upd H l (.tup xs))) : rTupOf K [.ref p] H Q := ⟨p, xs, rfl, .inl ⟨h, q⟩⟩
theorem x_tupT (h : SqT K H p xs) (q : Q (.ref p) H) : rTupOf K [.ref p] H Q := ⟨p, xs, rfl, .inr ⟨h, q⟩⟩
theorem x_addI (q : Q (.int (i + j)) H) : rAddX K (.int i) (.int j) H Q := .inl ⟨i, j, rfl, rfl, q⟩
theorem x_mulI (h : CMul i j) (q : Q (.int (i * j)) H) : rMulX K (.int i) (.int j) H Q := .inl ⟨i, j, rfl, rfl, h.ok, q⟩
theorem x_addL {b : Addr} (h1 : H p = some (.lst xs)) (h2 : H b = some (.lst ys)) (h : xs.length + ys.length ≤ sizeLine) (q : ∀ a, H a = none → Q (.ref a) (upd H a (.lst (xs ++ ys)))) : rAddX K (.ref p) (.ref b) H Q := .inr (.inl ⟨p, b, xs, ys, rfl, rfl, h1, h2, h, q⟩)
theorem x_addT {b : Addr} (h1 : H p = some (.tup xs)) (h2 : H b = some (.tup ys)) (h : xs.length + ys.length ≤ sizeLine) (q0 : xs = [] → Q (.ref b) H) (q1 : xs ≠ [] → ys = [] → Q (.ref p) H) (q : ∀ a, H a = none → Q (.ref a) (upd H a (.tup (xs ++ ys)))) : rAddX K (.ref p) (.ref b) H Q :=
  .inr (.inr ⟨p, b, xs, ys, rfl, rfl, SqT.of h1, SqT.of h2, h, q0, q1, fun _ _ => q⟩)
theorem x_repT (h1 : H p = some (.tup xs)) (h0 : xs ≠ []) (h2 : 2 ≤ j) (h3 : j ≤ 1000) (h4 : xs.length ≤ 1000) (q : ∀ a, H a = none → Q (.ref a) (upd H a (.tup (List.replicate j.toNat xs).flatten))) : rMulX K (.ref p) (.int j) H Q :=
  .inr ⟨p, j, xs, rfl, rfl, SqT.of h1, h0, h2, h3, h4, q⟩
theorem x_eqI (q : Q (.bl (decide (i = j))) H) : rEqX K (.int i) (.int j) H Q := .inl ⟨rfl, by
  have e : decide (V.int i = V.int j) = decide (i = j) := by by_cases z : i = j <;> simp [z]
  rw [e]; exact q⟩
theorem x_neI (q : Q (.bl (!decide (i = j))) H) : rNeX K (.int i) (.int j) H Q := .inl ⟨rfl, by
  have e : decide (V.int i = V.int j) = decide (i = j) := by by_cases z : i = j <;> simp [z]
  rw [e]; exact q⟩
theorem x_eqV (h : scal v w = true) (q : Q (.bl (decide (v = w))) H) : rEqX K v w H Q := .inl ⟨h, q⟩
theorem x_ixL (h : H p = some (.lst xs)) (e : atI xs i = some v) (q : Q v H) : rIxX K (.ref p) (.int i) H Q := .inl ⟨p, xs, i, v, rfl, rfl, SqL.of h, e, q⟩
theorem x_ixT (h : H p = some (.tup xs)) (e : atI xs i = some v) (q : Q v H) : rIxX K (.ref p) (.int i) H Q := .inr ⟨p, xs, i, v, rfl, rfl, SqT.of h, e, q⟩
theorem x_sl {f : V → Option Int → Option Int → Hp → VK → Prop} (q : te σ H fun x H1 => tl σ H1 fun l H2 => th σ H2 fun u H3 => f x l u H3 Q) : tSl f te tl th σ H Q := q
theorem x_no (q : QO none H) : tNoPart σ H QO := q
theorem x_part (q : te σ H fun x H1 => ∃ i, x = .int i ∧ QO (some i) H1) : tPart te σ H QO := q
theorem x_slL {lo hi : Option Int} (h : SqL K H p xs) (q : ∀ a, H a = none → Q (.ref a) (upd H a (.lst (cutV xs lo hi)))) : rSlX K (.ref p) lo hi H Q := .inl ⟨p, xs, rfl, h, q⟩
theorem x_slT {lo hi : Option Int} (h : H p = some (.tup xs)) (q1 : HT.sIx xs.length 0 lo = 0 ∧ HT.sIx xs.length xs.length hi = xs.length → Q (.ref p) H) (q : ¬ (HT.sIx xs.length 0 lo = 0 ∧ HT.sIx xs.length xs.length hi = xs.length) → ∀ a, H a = none → Q (.ref a) (upd H a (.tup (cutV xs lo hi)))) : rSlX K (.ref p) lo hi H Q := .inr ⟨p, xs, rfl, SqT.of h, q1, q⟩
theorem x_test (q : te σ H fun x H1 => isB x H1 QB) : tTest te σ H QB := q
theorem x_tB (q : te σ H fun x H1 => isB x H1 QB) : tB te σ H QB := q
theorem x_isB (q : QB k H) : isB (.bl k) H QB := ⟨k, rfl, q⟩
theorem x_and (q : t σ H fun c H1 => if c = true then u σ H1 QB else QB false H1) : tAnd t u σ H QB := q
theorem x_or (q : t σ H fun c H1 => if c = true then QB true H1 else u σ H1 QB) : tOr t u σ H QB := q
theorem x_not (q : t σ H fun c H1 => QB (!c) H1) : tNot t σ H QB := q
theorem x_andV (q : ta σ H fun x H1 => isB x H1 fun c H2 => if c = true then tb σ H2 Q else Q (.bl false) H2) : tAndV ta tb σ H Q := q
theorem x_orV (q : ta σ H fun x H1 => isB x H1 fun c H2 => if c = true then Q (.bl true) H2 else tb σ H2 Q) : tOrV ta tb σ H Q := q
theorem x_notV (q : ta σ H fun x H1 => isB x H1 fun c H2 => Q (.bl (!c)) H2) : tNotV ta σ H Q := q
theorem x_chain {f g : R2} (q : ta σ H fun x H1 => tb σ H1 fun y H2 => f x y H2 fun z H3 => isB z H3 fun k H4 => if k = true then tc σ H4 fun w H5 => g y w H5 Q else Q (.bl false) H4) : tChain f g ta tb tc σ H Q := q
theorem x_ifE (q : t σ H fun c H1 => if c = true then ta σ H1 Q else tb σ H1 Q) : tIf t ta tb σ H Q := q
theorem x_iteT (h : A) : if true = true then A else B := by rw [if_pos rfl]; exact h
theorem x_iteF (h : B) : if false = true then A else B := by rw [if_neg Bool.false_ne_true]; exact h
theorem x_iteNT (h : B) : if (!true) = true then A else B := x_iteF h
theorem x_iteNF (h : A) : if (!false) = true then A else B := x_iteT h
theorem x_ite (h1 : k = true → A) (h2 : k = false → B) : if k = true then A else B := by
  cases k with
  | true => exact x_iteT (h1 rfl)
  | false => exact x_iteF (h2 rfl)
theorem x_dec {C : Prop} [Decidable C] (h1 : C → A) (h2 : ¬ C → B) : if decide C = true then A else B :=
  x_ite (fun e => h1 (of_decide_eq_true e)) (fun e => h2 (of_decide_eq_false e))
theorem x_ndec {C : Prop} [Decidable C] (h1 : ¬ C → A) (h2 : C → B) : if (!decide C) = true then A else B := by
  by_cases e : C
  · rw [decide_eq_true e]; exact x_iteNT (h2 e)
  · rw [decide_eq_false e]; exact x_iteNF (h1 e)
theorem x_nil (q : QA [] H) : tNil σ H QA := q
theorem x_cons (q : te σ H fun x H1 => tr σ H1 fun xs H2 => QA (x :: xs) H2) : tCons te tr σ H QA := q
def mkT (xs : List V) (H : Hp) (Q : VK) : Prop := xs.length ≤ sizeLine ∧ ∀ p, H p = none → Q (.ref p) (upd H p (.tup xs))
def mkL (xs : List V) (H : Hp) (Q : VK) : Prop := xs.length ≤ sizeLine ∧ ∀ p, H p = none → Q (.ref p) (upd H p (.lst xs))
theorem x_tup (q : tr σ H fun xs H1 => mkT xs H1 Q) : tTup tr σ H Q := q
theorem x_lst (q : tr σ H fun xs H1 => mkL xs H1 Q) : tLst tr σ H Q := q
theorem x_cb {f : List V → Hp → VK → Prop} (q : tr σ H fun vs H1 => f vs H1 Q) : tCB f tr σ H Q := q
theorem x_call {sp : Sp} (q : tr σ H fun vs H1 => sp vs H1 Q E0) : tCallO sp tr σ H Q := q
theorem x_callK {sp : Sp} {m n : Nat} {idx : List Nat} {tk : TA} (q : tr σ H fun vs H1 => tk σ H1 fun zs H2 => vs.length = n ∧ zs.length = m ∧ sp (vs ++ idx.map fun i => zs.getD i .non) H2 Q E0) : tCallOK n m sp idx tr tk σ H Q := q
theorem x_callS {sp : Sp} {E : L2.St → XK} (q : tr σ H fun vs H1 => sp vs H1 Q (E σ)) : tCallS sp E tr σ H Q := q
theorem x_callSK {sp : Sp} {m n : Nat} {idx : List Nat} {tk : TA} {E : L2.St → XK} (q : tr σ H fun vs H1 => tk σ H1 fun zs H2 => vs.length = n ∧ zs.length = m ∧ sp (vs ++ idx.map fun i => zs.getD i .non) H2 Q (E σ)) : tCallSK n m sp idx E tr tk σ H Q := q
theorem x_bm {T : String} {f : V → List V → Hp → VK → Prop} (q : te σ H fun x H1 => tyV K T x H1 ∧ tr σ H1 fun xs H2 => f x xs H2 Q) : tBM K T f te tr σ H Q := q
/-! statements -/
theorem x_seq (q : ts ⟨tu ⟨n, r, b, c⟩, r, b, c⟩ σ H) : tSeq ts tu ⟨n, r, b, c⟩ σ H := q
theorem x_cut (Mid : L2.St → Hp → Prop) (h : ts ⟨Mid, r, b, c⟩ σ H) (k : ∀ σ' H', Mid σ' H' → tu ⟨n, r, b, c⟩ σ' H') : tCut ts tu ⟨n, r, b, c⟩ σ H := ⟨Mid, h, k⟩
theorem x_next (q : n σ H) : tNext ⟨n, r, b, c⟩ σ H := q
theorem x_brk (q : b σ H) : tBreak ⟨n, r, b, c⟩ σ H := q
theorem x_cont (q : c σ H) : tCont ⟨n, r, b, c⟩ σ H := q
theorem x_drop (q : te σ H fun _ H1 => n σ H1) : tDrop te ⟨n, r, b, c⟩ σ H := q
theorem x_ret (q : te σ H r) : tRet te ⟨n, r, b, c⟩ σ H := q
theorem x_ifS (q : t σ H fun k H1 => if k = true then ts ⟨n, r, b, c⟩ σ H1 else tu ⟨n, r, b, c⟩ σ H1) : tIfS t ts tu ⟨n, r, b, c⟩ σ H := q
theorem x_asg {g : TG} (q : te σ H fun x H1 => g x σ H1 n) : tAsg te g ⟨n, r, b, c⟩ σ H := q
theorem x_gName {i : Nat} (q : n (σ.set i (some v)) H) : gName i v σ H n := q
theorem x_gSub {s : TSet} (q : ta σ H fun o H1 => tb σ H1 fun i H2 => s o i v H2 fun H3 => n σ H3) : gSub ta tb s v σ H n := q
theorem x_setL {m : Nat} {Qh : Hp → Prop} (h : H p = some (.lst xs)) (e : ixN xs.length i = some m) (q : Qh (upd H p (.lst (xs.set m v)))) : rSetL (.ref p) (.int i) v H Qh := ⟨p, xs, i, m, rfl, rfl, h, e, q⟩
theorem x_app (h : H p = some (.lst xs)) (hl : xs.length < sizeLine) (q : Q .non (upd H p (.lst (xs ++ [v])))) : rAppend (.ref p) [v] H Q := ⟨p, xs, v, rfl, rfl, h, hl, q⟩
theorem x_len {f : V → Hp → VK → Prop} : True := trivial
theorem x_gX {m : Nat} {g : TGs} (h : H p = some (.tup xs) ∨ H p = some (.lst xs)) (e : xs.length = m) (q : g xs σ H n) : gX K m g (.ref p) σ H n := h.elim (fun h => .inl ⟨p, xs, rfl, SqT.of h, e, q⟩) fun h => .inr ⟨p, xs, rfl, SqL.of h, e, q⟩
theorem x_gCons {g : TG} {gs : TGs} (q : g v σ H fun σ' H' => gs xs σ' H' n) : gCons g gs (v :: xs) σ H n := ⟨v, xs, rfl, q⟩
theorem x_gNil (q : n σ H) : gNil [] σ H n := ⟨rfl, q⟩
/-! loops -/
def rawR (m : Nat) (g : TG) (ts : TS) (D : Ends) (σ : L2.St) (H : Hp) : Prop := ∃ W : Nat → Nat → L2.St → Hp → Prop, (∃ m, W 0 m σ H) ∧ ∀ i k σ H, W i k σ H →
  ((Itr 0 m).stop i H ∧ D.nx σ H) ∨ ((Itr 0 m).go i H ∧ ∃ N : L2.St → Hp → Prop, (∀ σ' H', N σ' H' → ∃ m', m' < k ∧ W (i + 1) m' σ' H') ∧ ∀ x H', (Itr 0 m).yld i H x H' → g x σ H' fun σ2 H2 => ts { D with nx := N, ct := N, bk := D.nx } σ2 H2)
def rngK (vs : List V) (P : Nat → Prop) : Prop := ∃ j : Int, vs = [.int j] ∧ -(2 ^ 62) ≤ j ∧ j < 2 ^ 62 ∧ P j.toNat
theorem x_rng {z : Int} {P : Nat → Prop} (m : Nat) (hm : m ≤ 1000000000) (hz : z = (m : Int)) (q : P m) : rngK [.int z] P := by
  subst hz
  exact ⟨(m : Int), rfl, by omega, by omega, by rw [Int.toNat_natCast]; exact q⟩
theorem x_forR {g : TG} (q : tr σ H fun vs H1 => rngK vs fun m => rawR m g ts ⟨n, r, b, c⟩ σ H1) : tFor (iRng1 tr) g ts ⟨n, r, b, c⟩ σ H := q
theorem x_loopR {g : TG} {m : Nat} (Pv : Nat → L2.St → Hp → Prop) (h0 : Pv 0 σ H) (hs : ∀ i σ H, i < m → Pv i σ H → g (.int (i : Int)) σ H fun σ2 H2 => ts ⟨Pv (i + 1), r, n, Pv (i + 1)⟩ σ2 H2) (hd : ∀ σ H, Pv m σ H → n σ H) : rawR m g ts ⟨n, r, b, c⟩ σ H := by
  refine for_range (lo := 0) (n := m) (D := ⟨n, r, b, c⟩) Pv h0 (fun i σ H hi hp => ?_) hd
  rw [Int.zero_add]
  exact hs i σ H hi hp
def rawJ (J : It) (g : TG) (ts : TS) (D : Ends) (σ : L2.St) (H : Hp) : Prop := ∃ W : Nat → Nat → L2.St → Hp → Prop, (∃ m, W 0 m σ H) ∧ ∀ i k σ H, W i k σ H →
  (J.stop i H ∧ D.nx σ H) ∨ (J.go i H ∧ ∃ N : L2.St → Hp → Prop, (∀ σ' H', N σ' H' → ∃ m', m' < k ∧ W (i + 1) m' σ' H') ∧ ∀ x H', J.yld i H x H' → g x σ H' fun σ2 H2 => ts { D with nx := N, ct := N, bk := D.nx } σ2 H2)
theorem x_forX {g : TG} (q : te σ H fun x H1 => ∃ a, x = .ref a ∧ (((∃ xs, SqL K H1 a xs) ∧ rawJ (Itl K a) g ts ⟨n, r, b, c⟩ σ H1) ∨ ((∃ xs, SqT K H1 a xs) ∧ rawJ (Itt K a) g ts ⟨n, r, b, c⟩ σ H1))) : tFor (iX K te) g ts ⟨n, r, b, c⟩ σ H := q
theorem x_loopL {g : TG} (h : SqL K H a xs) (Pv : Nat → L2.St → Hp → Prop) (h0 : Pv 0 σ H) (hl : ∀ i σ H, i ≤ xs.length → Pv i σ H → SqL K H a xs) (hs : ∀ i x σ H, xs[i]? = some x → Pv i σ H → g x σ H fun σ2 H2 => ts ⟨Pv (i + 1), r, n, Pv (i + 1)⟩ σ2 H2) (hd : ∀ σ H, Pv xs.length σ H → n σ H) :
    ∃ a', V.ref a = .ref a' ∧ (((∃ xs, SqL K H a' xs) ∧ rawJ (Itl K a') g ts ⟨n, r, b, c⟩ σ H) ∨ ((∃ xs, SqT K H a' xs) ∧ rawJ (Itt K a') g ts ⟨n, r, b, c⟩ σ H)) :=
  ⟨a, rfl, .inl ⟨⟨xs, h⟩, for_list (D := ⟨n, r, b, c⟩) Pv h0 hl hs hd⟩⟩
theorem x_loopT {g : TG} (h : SqT K H a xs) (Pv : Nat → L2.St → Hp → Prop) (h0 : Pv 0 σ H) (hl : ∀ i σ H, i ≤ xs.length → Pv i σ H → SqT K H a xs) (hs : ∀ i x σ H, xs[i]? = some x → Pv i σ H → g x σ H fun σ2 H2 => ts ⟨Pv (i + 1), r, n, Pv (i + 1)⟩ σ2 H2) (hd : ∀ σ H, Pv xs.length σ H → n σ H) :
    ∃ a', V.ref a = .ref a' ∧ (((∃ xs, SqL K H a' xs) ∧ rawJ (Itl K a') g ts ⟨n, r, b, c⟩ σ H) ∨ ((∃ xs, SqT K H a' xs) ∧ rawJ (Itt K a') g ts ⟨n, r, b, c⟩ σ H)) :=
  ⟨a, rfl, .inr ⟨⟨xs, h⟩, for_tup (D := ⟨n, r, b, c⟩) Pv h0 hl hs hd⟩⟩
/-! comprehensions -/
def rawC (J : It) (g : TG) (tt : TT) (te : TE) (vs : List Nat) (σ : L2.St) (H1 : Hp) (Q : VK) : Prop := ∀ D, H1 D = none → ∃ W : Nat → Nat → Hp → Prop, (∃ m, W 0 m (upd H1 D (.lst []))) ∧ ∀ i m H, W i m H →
  (J.stop i H ∧ Q (.ref D) H) ∨ (J.go i H ∧ ∃ Nx : Hp → Prop, (∀ H', Nx H' → ∃ m', m' < m ∧ W (i + 1) m' H') ∧ ∀ x H', J.yld i H x H' → g x (wipe σ vs) H' fun σ2 H2 => wipe σ2 vs = wipe σ vs ∧ tt σ2 H2 fun b H3 =>
    if b = true then te σ2 H3 fun y H4 => ∃ acc, H4 D = some (.lst acc) ∧ acc.length < sizeLine ∧ Nx (upd H4 D (.lst (acc ++ [y]))) else Nx H3)
theorem x_lcX {g : TG} {tt : TT} {tx : TE} {vs : List Nat} (q : te σ H fun x H1 => ∃ a, x = .ref a ∧ (((∃ xs, SqL K H1 a xs) ∧ rawC (Itl K a) g tt tx vs σ H1 Q) ∨ ((∃ xs, SqT K H1 a xs) ∧ rawC (Itt K a) g tt tx vs σ H1 Q))) : tLc (iX K te) g tt tx vs σ H Q := q
theorem x_lcR {g : TG} {tt : TT} {tx : TE} {vs : List Nat} (q : tr σ H fun us H1 => rngK us fun m => rawC (Itr 0 m) g tt tx vs σ H1 Q) : tLc (iRng1 tr) g tt tx vs σ H Q := q
theorem x_lcL {g : TG} {tt : TT} {tx : TE} {vs : List Nat} (h : SqL K H a xs) (Pv : Addr → Nat → Hp → Prop) (h0 : ∀ D, H D = none → Pv D 0 (upd H D (.lst []))) (hl : ∀ D i H, i ≤ xs.length → Pv D i H → SqL K H a xs)
    (hs : ∀ D i x H, xs[i]? = some x → Pv D i H → g x (wipe σ vs) H fun σ2 H2 => wipe σ2 vs = wipe σ vs ∧ tt σ2 H2 fun b H3 =>
      if b = true then tx σ2 H3 fun y H4 => ∃ acc, H4 D = some (.lst acc) ∧ acc.length < sizeLine ∧ Pv D (i + 1) (upd H4 D (.lst (acc ++ [y]))) else Pv D (i + 1) H3) (hd : ∀ D H, Pv D xs.length H → Q (.ref D) H) :
    ∃ a', V.ref a = .ref a' ∧ (((∃ xs, SqL K H a' xs) ∧ rawC (Itl K a') g tt tx vs σ H Q) ∨ ((∃ xs, SqT K H a' xs) ∧ rawC (Itt K a') g tt tx vs σ H Q)) :=
  ⟨a, rfl, .inl ⟨⟨xs, h⟩, fun D hD => lc_list (Pv D) (h0 D hD) (hl D) (hs D) (hd D)⟩⟩
theorem x_lcT {g : TG} {tt : TT} {tx : TE} {vs : List Nat} (h : SqT K H a xs) (Pv : Addr → Nat → Hp → Prop) (h0 : ∀ D, H D = none → Pv D 0 (upd H D (.lst []))) (hl : ∀ D i H, i ≤ xs.length → Pv D i H → SqT K H a xs)
    (hs : ∀ D i x H, xs[i]? = some x → Pv D i H → g x (wipe σ vs) H fun σ2 H2 => wipe σ2 vs = wipe σ vs ∧ tt σ2 H2 fun b H3 =>
      if b = true then tx σ2 H3 fun y H4 => ∃ acc, H4 D = some (.lst acc) ∧ acc.length < sizeLine ∧ Pv D (i + 1) (upd H4 D (.lst (acc ++ [y]))) else Pv D (i + 1) H3) (hd : ∀ D H, Pv D xs.length H → Q (.ref D) H) :
    ∃ a', V.ref a = .ref a' ∧ (((∃ xs, SqL K H a' xs) ∧ rawC (Itl K a') g tt tx vs σ H Q) ∨ ((∃ xs, SqT K H a' xs) ∧ rawC (Itt K a') g tt tx vs σ H Q)) :=
  ⟨a, rfl, .inr ⟨⟨xs, h⟩, fun D hD => lc_tup (Pv D) (h0 D hD) (hl D) (hs D) (hd D)⟩⟩
theorem x_lcN {g : TG} {tt : TT} {tx : TE} {vs : List Nat} {m : Nat} (Pv : Addr → Nat → Hp → Prop) (h0 : ∀ D, H D = none → Pv D 0 (upd H D (.lst [])))
    (hs : ∀ D i H, i < m → Pv D i H → g (.int (i : Int)) (wipe σ vs) H fun σ2 H2 => wipe σ2 vs = wipe σ vs ∧ tt σ2 H2 fun b H3 =>
      if b = true then tx σ2 H3 fun y H4 => ∃ acc, H4 D = some (.lst acc) ∧ acc.length < sizeLine ∧ Pv D (i + 1) (upd H4 D (.lst (acc ++ [y]))) else Pv D (i + 1) H3) (hd : ∀ D H, Pv D m H → Q (.ref D) H) : rawC (Itr 0 m) g tt tx vs σ H Q := fun D hD =>
  lc_range (Pv D) (h0 D hD) (fun i H hi hp => by
    rw [Int.zero_add]
    exact hs D i H hi hp) (hd D)
theorem x_tYes (q : QB true H) : tYes σ H QB := q
end
end Bx
namespace Bx
open PySem L2
/-! ### heaps: all but ex stays -/
def Kp (ex : List Addr) (H H' : Hp) : Prop := ∀ a o, a ∉ ex → H a = some o → H' a = some o
def Live (ex : List Addr) (H : Hp) : Prop := ∀ a, a ∈ ex → ∃ o, H a = some o
section
variable {ex ex' : List Addr} {sp p a row : Addr} {H H1 H2 H' : Hp} {o u : HO} {K : PySem.W.Frag} {xs : List V} {v : V}
theorem upd_get (h : H p = none) (e : H a = some o) : upd H p u a = some o := by
  rw [upd_ne (ne_of_none e h)]; exact e
theorem upd_get' (h : a ≠ p) (e : H a = some o) : upd H p u a = some o := by
  rw [upd_ne h]; exact e
theorem new_ne (h : H p = none) (e : H a = some o) : p ≠ a := fun z => by rw [z, e] at h; cases h
theorem Live.new (L : Live ex H) (h : H p = none) : p ∉ ex := fun z => by
  obtain ⟨o, e⟩ := L p z
  rw [h] at e; cases e
theorem Live.same (L : Live ex H) (s : Same H H1) : Live ex H1 := fun a h => by
  obtain ⟨o, e⟩ := L a h
  exact ⟨o, s _ _ e⟩
theorem Live.cons (L : Live ex H) (h : H p = some o) : Live (p :: ex) H := fun a z => by
  rcases List.mem_cons.mp z with rfl | z
  · exact ⟨o, h⟩
  · exact L a z
theorem Live.upd (L : Live ex H) : Live ex (upd H p o) := fun a h => by
  by_cases z : a = p
  · subst z; exact ⟨o, upd_same⟩
  · obtain ⟨u, e⟩ := L a h
    exact ⟨u, upd_get' z e⟩
theorem Live.nil : Live [] H := fun a h => nomatch h
theorem Live.one (h : H p = some o) : Live [p] H := Live.nil.cons h
theorem Kp.refl : Kp ex H H := fun _ _ _ h => h
theorem Kp.trans (x : Kp ex H H1) (y : Kp ex H1 H2) : Kp ex H H2 := fun a o n h => y a o n (x a o n h)
theorem Kp.new (x : Kp ex H H1) (h : H1 p = none) : Kp ex H (upd H1 p o) := fun a u n e => by
  rw [upd_ne (ne_of_none (x a u n e) h)]; exact x a u n e
theorem Kp.mut (x : Kp ex H H1) (h : p ∈ ex) : Kp ex H (upd H1 p o) := fun a u n e => by
  rw [upd_ne (fun z => n (by rw [z]; exact h))]; exact x a u n e
theorem Kp.mono (x : Kp ex H H1) (h : ∀ a, a ∈ ex → a ∈ ex') : Kp ex' H H1 := fun a u n e => x a u (fun z => n (h a z)) e
theorem Kp.more (x : Kp ex H H1) : Kp (p :: ex) H H1 := x.mono fun _ h => List.mem_cons_of_mem _ h
theorem Kp.same (x : Kp ex H H1) (y : Same H1 H2) : Kp ex H H2 := fun a o n h => y a o (x a o n h)
theorem Same.kp (y : Same H H1) : Kp ex H H1 := fun a o _ h => y a o h
theorem Same.new (x : Same H H1) (h : H1 p = none) : Same H (upd H1 p o) := fun a u e => by
  rw [upd_ne (ne_of_none (x a u e) h)]; exact x a u e
/-- an object that H does not know may change -/
theorem Kp.own (x : Kp ex H H1) (h : H p = none) : Kp ex H (upd H1 p o) := fun a u n e => by
  rw [upd_ne (ne_of_none e h)]; exact x a u n e
theorem Same.own (x : Same H H1) (h : H p = none) : Same H (upd H1 p o) := fun a u e => by
  rw [upd_ne (ne_of_none e h)]; exact x a u e
theorem Same.none (x : Same H H1) (h : H1 p = Option.none) : H p = Option.none := by
  cases q : H p with
  | none => rfl
  | some o => rw [x p o q] at h; cases h
theorem Kp.none (x : Kp ex H H1) (n : p ∉ ex) (h : H1 p = Option.none) : H p = Option.none := by
  cases q : H p with
  | none => rfl
  | some o => rw [x p o n q] at h; cases h
/-! ### the draws -/
structure Wd (H : Hp) (row sp : Addr) : Prop where
  ex : ∃ (s : Int) (rs : List Int), 0 ≤ s ∧ H sp = some (.lst [.int s]) ∧ H row = some (.lst (rs.map V.int)) ∧ rs ≠ [] ∧ rs.length ≤ 4000
  ne : row ≠ sp
theorem Wd.new (W : Wd H row sp) (h : H p = none) : Wd (upd H p o) row sp := by
  obtain ⟨⟨s, rs, a, b, c, d⟩, e⟩ := W
  exact ⟨⟨s, rs, a, upd_get h b, upd_get h c, d⟩, e⟩
theorem Wd.same (W : Wd H row sp) (h : Same H H1) : Wd H1 row sp := by
  obtain ⟨⟨s, rs, a, b, c, d⟩, e⟩ := W
  exact ⟨⟨s, rs, a, h _ _ b, h _ _ c, d⟩, e⟩
theorem Wd.live (W : Wd H row sp) : Live [sp] H := by
  obtain ⟨⟨s, rs, a, b, c, d⟩, e⟩ := W
  exact Live.one b
theorem Wd.sp_ne (W : Wd H row sp) (h : H p = none) : p ≠ sp := by
  obtain ⟨⟨s, rs, a, b, c, d⟩, e⟩ := W
  exact new_ne h b
/-- an own object that is neither -/
theorem Wd.own (W : Wd H row sp) (h : p ≠ sp) (h2 : p ≠ row) : Wd (upd H p o) row sp := by
  obtain ⟨⟨s, rs, a, b, c, d⟩, e⟩ := W
  exact ⟨⟨s, rs, a, upd_get' (Ne.symm h) b, upd_get' (Ne.symm h2) c, d⟩, e⟩
theorem Wd.row_ne (W : Wd H row sp) (h : H p = none) : p ≠ row := by
  obtain ⟨⟨s, rs, a, b, c, d⟩, e⟩ := W
  exact new_ne h c
theorem not1 (h : p ≠ sp) : p ∉ [sp] := fun z => h (List.mem_singleton.mp z)
end
/-! ### data -/
inductive Da where
  | non | bl (b : Bool) | int (i : Int) | str (s : Str) | tup (l : List Da) | lst (l : List Da)
inductive Rp (ex : List Addr) (H : Hp) : V → Da → Prop where
  | non : Rp ex H .non .non
  | bl (b : Bool) : Rp ex H (.bl b) (.bl b)
  | int (i : Int) : Rp ex H (.int i) (.int i)
  | str (s : Str) : Rp ex H (.str s) (.str s)
  | tup {a : Addr} {xs : List V} {ds : List Da} (n : a ∉ ex) (e : H a = some (.tup xs)) (l : xs.length = ds.length) (h : ∀ (i : Nat) (x : V) (d : Da), xs[i]? = some x → ds[i]? = some d → Rp ex H x d) : Rp ex H (.ref a) (.tup ds)
  | lst {a : Addr} {xs : List V} {ds : List Da} (n : a ∉ ex) (e : H a = some (.lst xs)) (l : xs.length = ds.length) (h : ∀ (i : Nat) (x : V) (d : Da), xs[i]? = some x → ds[i]? = some d → Rp ex H x d) : Rp ex H (.ref a) (.lst ds)
section
variable {ex ex' : List Addr} {sp p a row : Addr} {H H1 H2 H' : Hp} {o u : HO} {K : PySem.W.Frag} {xs : List V} {v : V} {d : Da} {ds : List Da}
theorem Rp.kp (h : Rp ex H v d) (k : Kp ex H H1) : Rp ex H1 v d := by
  induction h with
  | non => exact .non
  | bl b => exact .bl b
  | int i => exact .int i
  | str s => exact .str s
  | tup n e l _ ih => exact .tup n (k _ _ n e) l ih
  | lst n e l _ ih => exact .lst n (k _ _ n e) l ih
theorem Rp.same (h : Rp ex H v d) (k : Same H H1) : Rp ex H1 v d := h.kp (Same.kp k)
theorem Rp.less (h : Rp ex H v d) (k : ∀ a, a ∈ ex' → a ∈ ex) : Rp ex' H v d := by
  induction h with
  | non => exact .non
  | bl b => exact .bl b
  | int i => exact .int i
  | str s => exact .str s
  | tup n e l _ ih => exact .tup (fun z => n (k _ z)) e l ih
  | lst n e l _ ih => exact .lst (fun z => n (k _ z)) e l ih
theorem Rp.tail (h : Rp (p :: ex) H v d) : Rp ex H v d := h.less fun _ z => List.mem_cons_of_mem _ z
/-- what H holds is not at p, which it does not know -/
theorem Rp.grow (h : Rp ex H v d) (k : H p = none) : Rp (p :: ex) H v d := by
  induction h with
  | non => exact .non
  | bl b => exact .bl b
  | int i => exact .int i
  | str s => exact .str s
  | tup n e l _ ih => exact .tup (fun z => (List.mem_cons.mp z).elim (fun z => new_ne k e z.symm) n) e l ih
  | lst n e l _ ih => exact .lst (fun z => (List.mem_cons.mp z).elim (fun z => new_ne k e z.symm) n) e l ih
/-- many values -/
def Rps (ex : List Addr) (H : Hp) (xs : List V) (ds : List Da) : Prop := xs.length = ds.length ∧ ∀ (i : Nat) (x : V) (d : Da), xs[i]? = some x → ds[i]? = some d → Rp ex H x d
theorem Rps.nil : Rps ex H [] [] := ⟨rfl, fun i x d h => by simp at h⟩
theorem Rps.cons (h : Rp ex H v d) (t : Rps ex H xs ds) : Rps ex H (v :: xs) (d :: ds) := ⟨by simp [t.1], fun i x e h1 h2 => by
  cases i with
  | zero => cases h1; cases h2; exact h
  | succ i => exact t.2 i x e h1 h2⟩
theorem rps_kp (h : Rps ex H xs ds) (k : Kp ex H H1) : Rps ex H1 xs ds := ⟨h.1, fun i x d a b => (h.2 i x d a b).kp k⟩
theorem rps_same (h : Rps ex H xs ds) (k : Same H H1) : Rps ex H1 xs ds := rps_kp h (Same.kp k)
theorem rps_tail (h : Rps (p :: ex) H xs ds) : Rps ex H xs ds := ⟨h.1, fun i x d a b => (h.2 i x d a b).tail⟩
theorem rps_less (h : Rps ex H xs ds) (k : ∀ a, a ∈ ex' → a ∈ ex) : Rps ex' H xs ds := ⟨h.1, fun i x d a b => (h.2 i x d a b).less k⟩
theorem rps_grow (h : Rps ex H xs ds) (k : H p = none) : Rps (p :: ex) H xs ds := ⟨h.1, fun i x d a b => (h.2 i x d a b).grow k⟩
theorem rps_append {ys : List V} {es : List Da} (t : Rps ex H xs ds) (s : Rps ex H ys es) : Rps ex H (xs ++ ys) (ds ++ es) := ⟨by simp [t.1, s.1], fun i x e h1 h2 => by
  by_cases q : i < xs.length
  · rw [List.getElem?_append_left q] at h1
    rw [List.getElem?_append_left (by rw [← t.1]; exact q)] at h2
    exact t.2 i x e h1 h2
  · have q' : xs.length ≤ i := by omega
    rw [List.getElem?_append_right q'] at h1
    rw [List.getElem?_append_right (by rw [← t.1]; exact q')] at h2
    rw [t.1] at h1
    exact s.2 _ x e h1 h2⟩
theorem rps_snoc (t : Rps ex H xs ds) (h : Rp ex H v d) : Rps ex H (xs ++ [v]) (ds ++ [d]) := rps_append t (.cons h .nil)
theorem rps_get (t : Rps ex H xs ds) {i : Nat} (h : ds[i]? = some d) : ∃ x, xs[i]? = some x ∧ Rp ex H x d := by
  have hi : i < xs.length := by rw [t.1]; exact (List.getElem?_eq_some_iff.mp h).1
  exact ⟨xs[i], List.getElem?_eq_getElem hi, t.2 i _ d (List.getElem?_eq_getElem hi) h⟩
theorem rps_at (t : Rps ex H xs ds) {i : Nat} {x : V} (h : xs[i]? = some x) : ∃ d, ds[i]? = some d ∧ Rp ex H x d := by
  have hi : i < ds.length := by rw [← t.1]; exact (List.getElem?_eq_some_iff.mp h).1
  exact ⟨ds[i], List.getElem?_eq_getElem hi, t.2 i _ _ h (List.getElem?_eq_getElem hi)⟩
theorem rps_tup (h : Rps ex H xs ds) (n : a ∉ ex) (e : H a = some (.tup xs)) : Rp ex H (.ref a) (.tup ds) := .tup n e h.1 h.2
theorem rps_lst (h : Rps ex H xs ds) (n : a ∉ ex) (e : H a = some (.lst xs)) : Rp ex H (.ref a) (.lst ds) := .lst n e h.1 h.2
theorem Rp.tupI (h : Rp ex H v (.tup ds)) : ∃ a xs, v = .ref a ∧ a ∉ ex ∧ H a = some (.tup xs) ∧ Rps ex H xs ds := by
  cases h with
  | tup n e l h => exact ⟨_, _, rfl, n, e, l, h⟩
theorem Rp.lstI (h : Rp ex H v (.lst ds)) : ∃ a xs, v = .ref a ∧ a ∉ ex ∧ H a = some (.lst xs) ∧ Rps ex H xs ds := by
  cases h with
  | lst n e l h => exact ⟨_, _, rfl, n, e, l, h⟩
theorem Rp.intI {i : Int} (h : Rp ex H v (.int i)) : v = .int i := by cases h; rfl
theorem Rp.strI {s : Str} (h : Rp ex H v (.str s)) : v = .str s := by cases h; rfl
theorem Rp.nonI (h : Rp ex H v .non) : v = .non := by cases h; rfl
theorem Rp.blI {b : Bool} (h : Rp ex H v (.bl b)) : v = .bl b := by cases h; rfl
/-- ints -/
theorem rps_ints (ns : List Int) : Rps ex H (ns.map V.int) (ns.map Da.int) := ⟨by simp, fun i x d h1 h2 => by
  rw [List.getElem?_map] at h1 h2
  cases z : ns[i]? with
  | none => rw [z] at h1; cases h1
  | some m => rw [z] at h1 h2; cases h1; cases h2; exact .int m⟩
/-! ### their types -/
def Da.ty : Da → String
  | .non => "NoneType" | .bl _ => "bool" | .int _ => "int" | .str _ => "str" | .tup _ => "tuple" | .lst _ => "list"
theorem Rp.tyx (h : Rp ex H v d) : TyX K H v (.type d.ty) := by
  cases h with
  | non => exact .base .non
  | bl b => exact .base (.bl b)
  | int i => exact .base (.int i)
  | str s => exact .base (.str s)
  | tup n e l h => exact .base (.tup e)
  | lst n e l h => exact .base (.lst e)
/-- isinstance(v, T) -/
def Da.isa (d : Da) (T : String) : Bool := match d with
  | .non => T == "NoneType" | .bl _ => T == "bool" || T == "int" | .int _ => T == "int" | .str _ => T == "str" | .tup _ => T == "tuple" | .lst _ => T == "list"
theorem Da.kit {T : String} (d : Da) (h : T ∈ ["bool", "int", "str", "tuple", "list"]) : PySem.W.kitOne K (.type d.ty) (.type T) = some (d.isa T) := by
  simp only [List.mem_cons, List.not_mem_nil, or_false] at h
  rcases h with rfl | rfl | rfl | rfl | rfl <;> cases d <;> (dsimp only [Da.ty, Da.isa]; exact kit_ty (by decide +kernel))
theorem x_isa {Q : VK} {T : String} (h : Rp ex H v d) (hT : T ∈ ["bool", "int", "str", "tuple", "list"]) (q : Q (.bl (d.isa T)) H) : rIsi K [v, .ty T] H Q :=
  ⟨v, .ty T, .type d.ty, .type T, d.isa T, rfl, .ty T, h.tyx, d.kit hT, q⟩
theorem x_isaB {Q : VK} {T : String} {b : Bool} (h : Rp ex H v d) (hT : T ∈ ["bool", "int", "str", "tuple", "list"]) (hb : d.isa T = b) (q : Q (.bl b) H) : rIsi K [v, .ty T] H Q := x_isa h hT (by rw [hb]; exact q)
theorem x_eqR {Q : VK} (h : scal v v = true) (q : Q (.bl true) H) : rEqX K v v H Q := .inl ⟨h, by rw [decide_eq_true rfl]; exact q⟩
theorem x_isLT {Q : VK} {t : Addr} (h : Rp ex H v d) (e : H t = some (.tup [.ty "list", .ty "tuple"])) (q : Q (.bl (d.isa "list" || d.isa "tuple")) H) : rIsiT K [v, .ref t] H Q := by
  refine ⟨v, t, [.ty "list", .ty "tuple"], .type d.ty, [.type "list", .type "tuple"], (d.isa "list" || d.isa "tuple"), rfl, e, .cons (.ty _) (.cons (.ty _) .nil), h.tyx, ?_, q⟩
  have h1 := d.kit (K := K) (T := "list") (by decide)
  have h2 := d.kit (K := K) (T := "tuple") (by decide)
  refine kitAny_cons h1 (fun e => ?_) (fun e => by rw [e]; rfl)
  refine kitAny_cons h2 (fun e2 => ?_) (fun e2 => by rw [e2, Bool.or_true])
  rw [e, e2]
  exact kitAny_nil
theorem x_lenR {Q : VK} (h : Rp ex H v d) (hd : d = .tup ds ∨ d = .lst ds) (q : Q (.int (ds.length : Int)) H) :
    rLen K [v] H Q := by
  rcases hd with rfl | rfl
  · obtain ⟨a, xs, rfl, n, e, r⟩ := h.tupI
    exact ⟨a, xs, rfl, .inr (SqT.of e), by rw [r.1]; exact q⟩
  · obtain ⟨a, xs, rfl, n, e, r⟩ := h.lstI
    exact ⟨a, xs, rfl, .inl (SqL.of e), by rw [r.1]; exact q⟩
theorem x_lenL {Q : VK} (h : H p = some (.lst xs)) (q : Q (.int (xs.length : Int)) H) :
    rLen K [.ref p] H Q := ⟨p, xs, rfl, .inl (SqL.of h), q⟩
theorem x_lenT {Q : VK} (h : H p = some (.tup xs)) (q : Q (.int (xs.length : Int)) H) :
    rLen K [.ref p] H Q := ⟨p, xs, rfl, .inr (SqT.of h), q⟩
end
/-! ### pure data of a depth; the same in lists -/
inductive Dn : Nat → Da → Prop where
  | non {n} : Dn (n + 1) .non
  | bl {n} (b : Bool) : Dn (n + 1) (.bl b)
  | int {n} (i : Int) : Dn (n + 1) (.int i)
  | str {n} (s : Str) : Dn (n + 1) (.str s)
  | tup {n} {l : List Da} (hl : l.length ≤ 1000) (h : ∀ d, d ∈ l → Dn n d) : Dn (n + 1) (.tup l)
theorem Dn.mono {n m : Nat} {d : Da} (h : Dn n d) : n ≤ m → Dn m d := by
  induction h generalizing m with
  | non => intro z; cases m with | zero => omega | succ m => exact .non
  | bl b => intro z; cases m with | zero => omega | succ m => exact .bl b
  | int i => intro z; cases m with | zero => omega | succ m => exact .int i
  | str s => intro z; cases m with | zero => omega | succ m => exact .str s
  | tup hl h ih => intro z; cases m with | zero => omega | succ m => exact .tup hl fun d hd => ih d hd (by omega)
mutual
def Da.listed : Da → Da
  | .tup l => .lst (listedL l)
  | d => d
def listedL : List Da → List Da
  | [] => []
  | d :: l => d.listed :: listedL l
end
theorem listedL_eq (l : List Da) : listedL l = l.map Da.listed := by
  induction l with
  | nil => rfl
  | cons d l ih => rw [listedL, List.map_cons, ih]
theorem listed_tup (l : List Da) : (Da.tup l).listed = .lst (l.map Da.listed) := by
  rw [Da.listed, listedL_eq]
end Bx
namespace Bx
open PySem L2
section
variable {H : Hp} {Q : VK} {i j : Int} {xs : List V} {m : Nat} {p : Addr} {K : PySem.W.Frag} {v : V} {P : Prop}
theorem sz {n : Nat} (h : n ≤ 100000) : n ≤ sizeLine := Nat.le_trans h (by decide)
theorem szl {n : Nat} (h : n < 100000) : n < sizeLine := Nat.lt_of_lt_of_le h (by decide)
theorem x_exI {P : Int → Prop} (q : P i) : ∃ j, V.int i = V.int j ∧ P j := ⟨i, rfl, q⟩
theorem x_mkt (hm : xs.length = m) (h : m ≤ 100000) (q : ∀ p, H p = none → Q (.ref p) (upd H p (.tup xs))) : mkT xs H Q := ⟨by rw [hm]; exact sz h, q⟩
theorem x_mkl (hm : xs.length = m) (h : m ≤ 100000) (q : ∀ p, H p = none → Q (.ref p) (upd H p (.lst xs))) : mkL xs H Q := ⟨by rw [hm]; exact sz h, q⟩
theorem x_bmL {f : Prop} (h : H p = some (.lst xs)) (q : f) : tyV K "list" (.ref p) H ∧ f := ⟨.inl ⟨rfl, xs, SqL.of h⟩, q⟩
theorem cmulL {i j : Int} (h1 : -(2 ^ 64) < i) (h2 : i < 2 ^ 64) : CMul i j := .inl ⟨h1, h2⟩
theorem cmulR {i j : Int} (h1 : -(2 ^ 64) < j) (h2 : j < 2 ^ 64) : CMul i j := .inr ⟨h1, h2⟩
theorem map_snoc (rs : List Int) (w : Int) : rs.map V.int ++ [V.int w] = (rs ++ [w]).map V.int := by simp
theorem x_start {N : List Str} {vs : List V} {t : TS} {D : Ends} {σ' : L2.St} (e : start N vs = σ') (h : t D σ' H) : t D (start N vs) H := e ▸ h
theorem ints_at {ns : List Int} {j : Nat} {z : Int} (h : ns[j]? = some z) : (ns.map V.int)[j]? = some (V.int z) := by rw [List.getElem?_map, h]; rfl
theorem x_lcS {σ : L2.St} {a : Addr} {g : TG} {tt : TT} {tx : TE} {vs : List Nat} (h : H a = some (.tup xs) ∨ H a = some (.lst xs)) (Pv : Addr → Nat → Hp → Prop) (h0 : ∀ D, H D = none → Pv D 0 (upd H D (.lst []))) (hl : ∀ D i H1, Pv D i H1 → Same H H1)
    (hs : ∀ D i x H, xs[i]? = some x → Pv D i H → g x (wipe σ vs) H fun σ2 H2 => wipe σ2 vs = wipe σ vs ∧ tt σ2 H2 fun b H3 =>
      if b = true then tx σ2 H3 fun y H4 => ∃ acc, H4 D = some (.lst acc) ∧ acc.length < sizeLine ∧ Pv D (i + 1) (upd H4 D (.lst (acc ++ [y]))) else Pv D (i + 1) H3) (hd : ∀ D H, Pv D xs.length H → Q (.ref D) H) :
    ∃ a', V.ref a = .ref a' ∧ (((∃ xs, SqL K H a' xs) ∧ rawC (Itl K a') g tt tx vs σ H Q) ∨ ((∃ xs, SqT K H a' xs) ∧ rawC (Itt K a') g tt tx vs σ H Q)) := by
  rcases h with h | h
  · exact x_lcT (SqT.of h) Pv h0 (fun D i H1 _ p => SqT.of (hl D i H1 p _ _ h)) hs hd
  · exact x_lcL (SqL.of h) Pv h0 (fun D i H1 _ p => SqL.of (hl D i H1 p _ _ h)) hs hd
theorem x_lenS {p : Addr} (h : H p = some (.tup xs) ∨ H p = some (.lst xs)) (q : Q (.int (xs.length : Int)) H) : rLen K [.ref p] H Q := h.elim (fun h => x_lenT h q) fun h => x_lenL h q
theorem x_ixS {p : Addr} {i : Int} (h : H p = some (.tup xs) ∨ H p = some (.lst xs)) (e : atI xs i = some v) (q : Q v H) : rIxX K (.ref p) (.int i) H Q := h.elim (fun h => x_ixT h e q) fun h => x_ixL h e q
/-- a sequence of data, a list or a tuple -/
def Da.seq (d : Da) (ds : List Da) : Prop := d = .tup ds ∨ d = .lst ds
theorem Rp.seqI {ex : List Addr} {d : Da} {ds : List Da} (h : Rp ex H v d) (e : d.seq ds) : ∃ a xs, v = .ref a ∧ a ∉ ex ∧ (H a = some (.tup xs) ∨ H a = some (.lst xs)) ∧ Rps ex H xs ds := by
  rcases e with rfl | rfl
  · obtain ⟨a, xs, e1, e2, e3, e4⟩ := h.tupI
    exact ⟨a, xs, e1, e2, .inl e3, e4⟩
  · obtain ⟨a, xs, e1, e2, e3, e4⟩ := h.lstI
    exact ⟨a, xs, e1, e2, .inr e3, e4⟩
theorem cut_from (xs : List V) (k : Nat) : cutV xs (some (k : Int)) none = xs.drop k := by
  unfold cutV
  rw [HT.sIx_nat, HT.sIx_none]
  by_cases h : k ≤ xs.length
  · rw [Nat.min_eq_left h, List.take_of_length_le (by rw [List.length_drop]; exact Nat.le_refl _)]
  · rw [Nat.min_eq_right (by omega), List.drop_eq_nil_of_le (Nat.le_refl _), List.drop_eq_nil_of_le (by omega), List.take_nil]
theorem cut_to (xs : List V) (k : Nat) : cutV xs none (some (k : Int)) = xs.take k := by
  unfold cutV
  rw [HT.sIx_nat, HT.sIx_none, List.drop_zero, Nat.sub_zero]
  by_cases h : k ≤ xs.length
  · rw [Nat.min_eq_left h]
  · rw [Nat.min_eq_right (by omega), List.take_of_length_le (Nat.le_refl _), List.take_of_length_le (by omega)]
section
variable {ex : List Addr} {d d' : Da} {ds es : List Da} {u : V} {z : Int}
theorem rps_take {n : Nat} (h : Rps ex H xs ds) : Rps ex H (xs.take n) (ds.take n) := ⟨by rw [List.length_take, List.length_take, h.1], fun i x d h1 h2 => by
  rw [List.getElem?_take] at h1 h2
  by_cases c : i < n
  · rw [if_pos c] at h1 h2; exact h.2 i x d h1 h2
  · rw [if_neg c] at h1; cases h1⟩
theorem rps_drop {n : Nat} (h : Rps ex H xs ds) : Rps ex H (xs.drop n) (ds.drop n) := ⟨by rw [List.length_drop, List.length_drop, h.1], fun i x d h1 h2 => by
  rw [List.getElem?_drop] at h1 h2
  exact h.2 _ x d h1 h2⟩
theorem x_mkT (r : Rps ex H xs ds) (L : Live ex H) (hl : ds.length ≤ 100000) (q : ∀ v' H', Same H H' → Rp ex H' v' (.tup ds) → Q v' H') : mkT xs H Q :=
  ⟨by rw [r.1]; exact sz hl, fun p hp => q _ _ (Same.new (Same.refl _) hp) (rps_tup (rps_same r (Same.new (Same.refl _) hp)) (L.new hp) upd_same)⟩
theorem x_mkL (r : Rps ex H xs ds) (L : Live ex H) (hl : ds.length ≤ 100000) (q : ∀ v' H', Same H H' → Rp ex H' v' (.lst ds) → Q v' H') : mkL xs H Q :=
  ⟨by rw [r.1]; exact sz hl, fun p hp => q _ _ (Same.new (Same.refl _) hp) (rps_lst (rps_same r (Same.new (Same.refl _) hp)) (L.new hp) upd_same)⟩
theorem x_slR {lo hi : Option Int} (h : Rp ex H v (.tup ds)) (L : Live ex H) (q : ∀ v' H' ds', Same H H' → Rp ex H' v' (.tup ds') → (∀ xs, Rps ex H xs ds → Rps ex H (cutV xs lo hi) ds' ) → Q v' H') (hd : ∃ ds', ∀ xs, Rps ex H xs ds → Rps ex H (cutV xs lo hi) ds') : rSlX K v lo hi H Q := by
  obtain ⟨ds', hc⟩ := hd
  obtain ⟨a, xs, rfl, n, e, r⟩ := h.tupI
  refine x_slT e (fun w => ?_) (fun _ p hp => q _ _ ds' (Same.new (Same.refl _) hp) (rps_tup (rps_same (hc xs r) (Same.new (Same.refl _) hp)) (L.new hp) upd_same) hc)
  have e2 : cutV xs lo hi = xs := by
    unfold cutV
    rw [w.1, w.2, List.drop_zero, Nat.sub_zero, List.take_length]
  have r2 := hc xs r
  rw [e2] at r2
  exact q _ _ ds' (Same.refl _) (rps_tup r2 n e) hc
theorem x_slFrom {k : Nat} (h : Rp ex H v (.tup ds)) (hz : z = (k : Int)) (L : Live ex H) (q : ∀ v' H', Same H H' → Rp ex H' v' (.tup (ds.drop k)) → Q v' H') : rSlX K v (some z) none H Q := by
  subst hz
  obtain ⟨a, xs, rfl, n, e, r⟩ := h.tupI
  have r2 : Rps ex H (cutV xs (some (k : Int)) none) (ds.drop k) := by rw [cut_from]; exact rps_drop r
  refine x_slT e (fun w => ?_) (fun _ p hp => q _ _ (Same.new (Same.refl _) hp) (rps_tup (rps_same r2 (Same.new (Same.refl _) hp)) (L.new hp) upd_same))
  have e2 : cutV xs (some (k : Int)) none = xs := by
    unfold cutV
    rw [w.1, w.2, List.drop_zero, Nat.sub_zero, List.take_length]
  rw [e2] at r2
  exact q _ _ (Same.refl _) (rps_tup r2 n e)
theorem x_slTo {k : Nat} (h : Rp ex H v (.tup ds)) (hz : z = (k : Int)) (L : Live ex H) (q : ∀ v' H', Same H H' → Rp ex H' v' (.tup (ds.take k)) → Q v' H') : rSlX K v none (some z) H Q := by
  subst hz
  obtain ⟨a, xs, rfl, n, e, r⟩ := h.tupI
  have r2 : Rps ex H (cutV xs none (some (k : Int))) (ds.take k) := by rw [cut_to]; exact rps_take r
  refine x_slT e (fun w => ?_) (fun _ p hp => q _ _ (Same.new (Same.refl _) hp) (rps_tup (rps_same r2 (Same.new (Same.refl _) hp)) (L.new hp) upd_same))
  have e2 : cutV xs none (some (k : Int)) = xs := by
    unfold cutV
    rw [w.1, w.2, List.drop_zero, Nat.sub_zero, List.take_length]
  rw [e2] at r2
  exact q _ _ (Same.refl _) (rps_tup r2 n e)
theorem x_addR (h1 : Rp ex H v (.tup ds)) (h2 : Rp ex H u (.tup es)) (hl : ds.length + es.length ≤ 100000) (L : Live ex H) (q : ∀ v' H', Same H H' → Rp ex H' v' (.tup (ds ++ es)) → Q v' H') : rAddX K v u H Q := by
  obtain ⟨a, xs, rfl, n1, e1, r1⟩ := id h1.tupI
  obtain ⟨b, ys, rfl, n2, e2, r2⟩ := id h2.tupI
  refine x_addT e1 e2 (by rw [r1.1, r2.1]; exact sz hl) (fun w => ?_) (fun _ w => ?_) (fun p hp => q _ _ (Same.new (Same.refl _) hp) (rps_tup (rps_same (rps_append r1 r2) (Same.new (Same.refl _) hp)) (L.new hp) upd_same))
  · subst w
    have e : ds = [] := List.length_eq_zero_iff.mp r1.1.symm
    subst e
    exact q _ _ (Same.refl _) h2
  · subst w
    have e : es = [] := List.length_eq_zero_iff.mp r2.1.symm
    subst e
    rw [List.append_nil] at q
    exact q _ _ (Same.refl _) h1
theorem x_addLR (h1 : Rp ex H v (.lst ds)) (h2 : Rp ex H u (.lst es)) (hl : ds.length + es.length ≤ 100000) (L : Live ex H) (q : ∀ v' H', Same H H' → Rp ex H' v' (.lst (ds ++ es)) → Q v' H') : rAddX K v u H Q := by
  obtain ⟨a, xs, rfl, n1, e1, r1⟩ := h1.lstI
  obtain ⟨b, ys, rfl, n2, e2, r2⟩ := h2.lstI
  exact x_addL e1 e2 (by rw [r1.1, r2.1]; exact sz hl) (fun p hp => q _ _ (Same.new (Same.refl _) hp) (rps_lst (rps_same (rps_append r1 r2) (Same.new (Same.refl _) hp)) (L.new hp) upd_same))
theorem rps_rep (r : Rps ex H xs ds) : ∀ k : Nat, Rps ex H (List.replicate k xs).flatten (List.replicate k ds).flatten
  | 0 => .nil
  | k + 1 => by
    rw [List.replicate_succ, List.replicate_succ, List.flatten_cons, List.flatten_cons]
    exact rps_append r (rps_rep r k)
theorem x_repR (h1 : Rp ex H v (.tup ds)) (h0 : ds ≠ []) (hl : ds.length ≤ 1000) (h2 : 2 ≤ z) (h3 : z ≤ 1000) (L : Live ex H) (q : ∀ v' H', Same H H' → Rp ex H' v' (.tup (List.replicate z.toNat ds).flatten) → Q v' H') : rMulX K v (.int z) H Q := by
  obtain ⟨a, xs, rfl, n1, e1, r1⟩ := h1.tupI
  exact x_repT e1 (fun w => h0 (List.length_eq_zero_iff.mp (by rw [← r1.1, w]; rfl))) h2 h3 (by rw [r1.1]; exact hl) fun p hp => q _ _ (Same.new (Same.refl _) hp) (rps_tup (rps_same (rps_rep r1 _) (Same.new (Same.refl _) hp)) (L.new hp) upd_same)
theorem x_ixR {i : Nat} (h : Rp ex H v d) (hs : d.seq ds) (e : ds[i]? = some d') (hz : z = (i : Int)) (q : ∀ x, Rp ex H x d' → Q x H) : rIxX K v (.int z) H Q := by
  subst hz
  obtain ⟨a, xs, rfl, n, e1, r⟩ := h.seqI hs
  obtain ⟨x, g, rx⟩ := rps_get r e
  exact x_ixS e1 (atI_nat g) (q x rx)
end
theorem get_ex {α : Type} {l : List α} {i n : Nat} (hn : l.length = n) (h : i < n) : ∃ d, l[i]? = some d := ⟨_, List.getElem?_eq_getElem (by rw [hn]; exact h)⟩
theorem x_try {C : Addr} {i : Nat} {tb : WX → TS} {ts : Addr → Value → Option Addr → TS} {Wo : WX} {σ : L2.St} {n b c : L2.St → Hp → Prop} {r : VK} (q : tb (wAs K (.ref C) i ts Wo ⟨n, r, b, c⟩) ⟨n, r, b, c⟩ σ H) : tTry K C i tb ts Wo ⟨n, r, b, c⟩ σ H := q
theorem x_allB {a : Addr} (bs : List Bool) (h : H a = some (.lst (bs.map V.bl))) (q : Q (.bl (bs.all id)) H) : rAll K [.ref a] H Q := ⟨a, bs, rfl, SqL.of h, q⟩
end
end Bx

namespace Bx
open PySem PySem.W PySem.Calls PyProof.Rows PySem.HandSPX
open Builtin Builtin.ObjectAttr
/-! ### own errors over Exception: the row of classes, the first field stored -/
abbrev exEnd : List Value := [.type "Exception", .type "BaseException", .type "object"]
/-- own classes, then Exception's own row -/
def exRow : List Value → Bool
  | .ref _ :: r => exRow r
  | l => l == exEnd
theorem exRow_two (l : List Value) (e : exRow l = true) : (∃ c r, l = .ref c :: r ∧ exRow r = true) ∨ l = exEnd := by
  match l, e with
  | .ref c :: r, e => exact .inl ⟨c, r, rfl, e⟩
  | [], e => exact .inr (beq_iff_eq.mp e)
  | .none :: _, e => exact .inr (beq_iff_eq.mp e)
  | .ellipsis :: _, e => exact .inr (beq_iff_eq.mp e)
  | .notImplemented :: _, e => exact .inr (beq_iff_eq.mp e)
  | .bool _ :: _, e => exact .inr (beq_iff_eq.mp e)
  | .int _ _ :: _, e => exact .inr (beq_iff_eq.mp e)
  | .float _ _ :: _, e => exact .inr (beq_iff_eq.mp e)
  | .str _ _ :: _, e => exact .inr (beq_iff_eq.mp e)
  | .bytes _ _ :: _, e => exact .inr (beq_iff_eq.mp e)
  | .type _ :: _, e => exact .inr (beq_iff_eq.mp e)
  | .builtin _ :: _, e => exact .inr (beq_iff_eq.mp e)
theorem exRow_loop (self : Value) (l : List Value) : exRow l = true → refuseLoop self "__setattr__" l = pure () := by
  induction l with
  | nil => exact fun e => absurd e (by decide)
  | cons a r ih =>
    intro e
    rcases exRow_two _ e with ⟨c, r', q, h⟩ | q
    · obtain ⟨rfl, rfl⟩ := List.cons.inj q
      exact (refuseLoop_ref ..).trans (ih h)
    · rw [q]; exact F.store_Exception.passes self
theorem exRow_has (X : String) (l : List Value) : exRow l = true → l.contains (.type X) = exEnd.contains (.type X) := by
  induction l with
  | nil => exact fun e => absurd e (by decide)
  | cons a r ih =>
    intro e
    rcases exRow_two _ e with ⟨c, r', q, h⟩ | q
    · obtain ⟨rfl, rfl⟩ := List.cons.inj q
      exact (List.contains_cons ..).trans ((by rw [ih h]; rfl))
    · rw [q]
theorem exRow_some {l : List Value} (e : exRow l = true) : l.isEmpty = false := by
  cases l with
  | nil => exact absurd e (by decide)
  | cons _ _ => rfl
theorem one_size (v : Value) : [v].length ≤ sizeLine := Nat.le_trans (show 1 ≤ 1000 by decide) (by decide)
theorem slot_ld {M : Model} {s : Shared} {name : Str} {scope : Scope} {L a : Addr} {cd : Value} {m : Str → Option Value} {x : Str} {pos : Pos} {v : Value} {Q : Value → Shared → Prop} {A : Around} {E : Value → Shared → Prop} (hn : s.heap.Ns L m) (hv : m x = some v) (h : Q v s)
    (hk : scope.kind = .function := by rfl) (hl : (envOfC name scope L a cd).kindOf x = some .local := by rfl) (hd : (x == ("__debug__" : Str)) = false := by decide) :
    wpAny M A (eval (.Name x pos) (envOfC name scope L a cd)) Q E s := wpAny_Name (wpAny_loadName_local hk hl hn hv h) hd
section
variable {prog : Program} {w : World} {A : Around} {R : Result → Shared → Prop} {hp : Heap} {g : Array GenState} {d : Drawn} {t : Nat} {os : OsState}
theorem first_store {K : W.Frag} {name : Str} {tk : Tok} {v : Value} {x C : Addr} {fv : Array Value} {cd : ClassData}
    (X : K.In hp) (hx : hp.get? x = some { cls := .ref C, data := .fields fv }) (hcd : W.clsIn K C = some cd) (hm : exRow cd.mro = true) (hh : cd.hasDict = true) (ha : W.findIn K (.ref C) name = some none)
    (hq : ∀ h' tk' dx, (∀ b o, b ≠ x → hp.get? b = some o → h'.get? b = some o) → hp.objs.size ≤ dx → dx ≠ x → h'.get? x = some { cls := .ref C, dict := some dx, data := .fields fv } →
      h'.Ns1 dx (fun y => if y = name then some v else none) → R (.ok (.ret .none)) ⟨h', g, d, tk', os⟩) :
    codeAny (model prog w) A (.call (.builtin "object.__setattr__") ⟨[.ref x, .str name tk, v], []⟩) R ⟨hp, g, d, t, os⟩ := by
  have I : W.InstAt hp x { cls := .ref C, data := .fields fv } C none := ⟨hx, rfl, rfl, trivial⟩
  have hob : cd.mro.contains (.type "object") = true := (exRow_has "object" _ hm).trans (by decide +kernel)
  have hxs : x ≠ hp.objs.size := Nat.ne_of_lt (Heap.lt_size hx)
  have sub : W.Looks (model prog w) hp (isInstance (.ref x) (.type "object")) true := I.type.andThen (W.looks_mroIn X (by unfold W.mroIn; rw [hcd, Option.bind_some, if_neg (by rw [exRow_some hm]; decide), hob]))
  refine codeAny_call_builtin F.store_object.slot.plain F.store_object.entry (@W.check_slot (model prog w) _ _ ⟨hp, g, d, t, os⟩ "object.__setattr__" "object" "__setattr__" (.ref x) [.str name tk, v] [] _ F.store_object.kind F.store_object.split sub (F.store_object.args (.ref x) (.str name tk) v) ?_)
  have hmr : W.Looks (model prog w) hp (mroOf (.ref C)) cd.mro := (W.looks_clsIn X hcd).andThen .now
  have hst : W.Looks (model prog w) hp (storeTaker? none) none := .now
  have hcls : W.Looks (model prog w) hp (classData C) cd := W.looks_clsIn X hcd
  rw [W.osa_eq, refuse_eq]
  refine wpAny_bind (wpAny_bind (I.type.at (wpAny_bind (hmr.at ?_))))
  rw [exRow_loop _ _ hm]
  refine wpAny_pure (wpAny_bind (I.type.at (wpAny_bind ((W.looks_findIn X ha).at (wpAny_bind (hst.at ?_))))))
  show wpAny _ _ (storeInOwnDict (.ref x) (.ref C) (.str name tk) name v false) _ _ _
  obtain ⟨nm, bs, mro, ns, qn, hd, sn, sb, ab, col, del⟩ := cd
  dsimp only at hh
  subst hh
  unfold storeInOwnDict ownDictForStores
  repeat (first | with_reducible refine store_in_new ?_ ?_ | with_reducible refine wpAny_loadPart_at hx ?_ | with_reducible refine hcls.at ?_ | wp_step)
  · exact ⟨_, #[], _, (Heap.get?_update_ne _ _ _ _ hxs.symm).trans (Heap.get?_push_at rfl rfl), rfl, fun e he => absurd he (by simp), fun _ => rfl⟩
  · intro h' tk' hn' hs
    have hx₁ : (hp.push { cls := .type "dict", data := .dict #[] }).get? x = some { cls := .ref C, data := .fields fv } := Heap.get?_push_of_some _ hx
    refine hq h' tk' hp.objs.size (fun b o hb ho => ?_) (Nat.le_refl _) hxs.symm ?_ hn'
    · exact (hs.2 b (Nat.ne_of_lt (Heap.lt_size ho))).trans ((Heap.get?_update_ne _ _ _ _ hb).trans (Heap.get?_push_of_some _ ho))
    · exact (hs.2 x hxs).trans (Heap.get?_update_self _ hx₁ rfl)
end
/-- an error of the class at S is what «except S» names -/
theorem names_self {K : Frag} {S : Addr} (h1 : subIn K (.ref S) (.type "BaseException") = some true) (h2 : isClsIn K S = true) (h3 : typeIn K (.ref S) = some (.type "type")) (h4 : subIn K (.ref S) (.ref S) = some true) :
    exmOne K (.ref S) (.ref S) = some true := by
  have e1 : (subIn K (.ref S) (.type "BaseException") == some true) = true := by rw [h1] <;> rfl
  have e2 : ((clsIn K S).isSome && typeIn K (.ref S) == some (.type "type")) = true := by
    have h2' : (clsIn K S).isSome = true := h2
    rw [h2', h3] <;> rfl
  show (if (subIn K (.ref S) (.type "BaseException") == some true) = true then (if ((clsIn K S).isSome && typeIn K (.ref S) == some (.type "type")) = true then subIn K (.ref S) (.ref S) else none) else none) = some true
  rw [if_pos e1, if_pos e2]
  exact h4
end Bx

namespace Bx
namespace Eat
open PySem PySem.W PySem.Calls PyProof.Rows PySem.HandSPX
/-- the text of __init__(self, at) -/
def iA (p1 p2 : Pos) : Arguments := { posonlyargs := [], args := [{ arg := "self", annotation := none, pos := p1 }, { arg := "at", annotation := none, pos := p2 }], vararg := none, kwonlyargs := [], kw_defaults := [], kwarg := none, defaults := [] }
def iB (q1 q2 q3 q4 : Pos) : List Stmt := [.Assign [.Attribute (.Name "self" q1) "at" q2] (.Name "at" q3) q4]
def iS : Scope := { kind := .function, names := [(PySem.Str.ofString "self", .local), (PySem.Str.ofString "at", .local)], isGenerator := false, isCoroutine := false, more := [] }
/-- what stands of the class (named x, at C) and of its __init__ (at fI) -/
structure Tx (K : Frag) (mg : Str → Option Value) (x q : Str) (C fI : Addr) : Prop where
  gC : mg x = some (.ref C)
  cls : ∃ nm q N bs bm sn sub ab col dd k0 k1 k2 k3 k5, K.lookup C = some (excClassObj nm q C N bs bm true sn sub ab col dd k0 k1 k2 k3 k5 "Exception.__new__") ∧ exRow bm = true
  sa : findIn K (.ref C) "__setattr__" = some (some (.builtin "object.__setattr__"))
  ga : findIn K (.ref C) "__getattribute__" = some (some (.builtin "BaseException.__getattribute__"))
  gg : findIn K (.ref C) "__getattr__" = some none
  noN : findIn K (.ref C) "at" = some none
  iC : findIn K (.ref C) "__init__" = some (some (.ref fI))
  tC : typeIn K (.ref fI) = some (.type "function")
  kC : keepIn K (.ref C) = true
  exC : subIn K (.ref C) (.type "BaseException") = some true
  tyC : typeIn K (.ref C) = some (.type "type")
  hdC : hasDictIn K C = true
  te : exmOne K (.ref C) (.ref C) = some true
  fn : ∃ (oc : Value) (od : Option Addr) (doc pm : Value) (an : Option Addr) (cdv ct : Value) (osl : Array (Option Value)) (p1 p2 q1 q2 q3 q4 : Pos),
    K.lookup fI = some ⟨oc, od, .func (fnOf "__init__" q (iA p1 p2) (iB q1 q2 q3 q4) iS .none .none doc pm an cdv ct), osl⟩ ∧ codeIn K cdv q = true
structure InitEnd (h h' : Heap) (x C dx t1 : Addr) (v : Value) : Prop where
  keep : ∀ b o, b ≠ x → h.get? b = some o → h'.get? b = some o
  obj : h'.get? x = some { cls := .ref C, dict := some dx, data := .fields #[.ref t1, .none, .none, .none, .bool false, .none] }
  dbig : h.objs.size ≤ dx
  dne : dx ≠ x
  ns : h'.Ns1 dx (fun y => if y = "at" then some v else none)
structure Made (h h' : Heap) (e C d : Addr) (v : Value) : Prop where
  keep : ∀ b o, h.get? b = some o → h'.get? b = some o
  new : h.objs.size ≤ e
  obj : ∃ oe vs, h'.get? e = some oe ∧ oe.cls = .ref C ∧ oe.dict = some d ∧ oe.data = .fields vs ∧ vs[1]? = some .none
  dbig : h.objs.size ≤ d
  dne : d ≠ e
  ns : h'.Ns1 d (fun y => if y = "at" then some v else none)
section
variable {prog : Program} {w : World} {A : Around} {E : Value → Shared → Prop} {R : Result → Shared → Prop} {s : Shared} {K : Frag} {mg : Str → Option Value} {x0 q0 : Str} {C fI : Addr}
theorem init_run (T : Tx K mg x0 q0 C fI) {x t0 : Addr} {v : Value} (X : K.In s.heap) (hlim : s.heap.NoLimit) (hx : s.heap.get? x = some (excO C t0)) (hnx : K.lookup x = none) (hroom : A.depth < recursionLimit)
    (hq : ∀ h' tk dx, InitEnd s.heap h' x C dx t0 v → R (.ok (.ret .none)) { s with heap := h', toks := tk }) :
    codeAny (model prog w) A (.call (.ref fI) ⟨[.ref x, v], []⟩) R s := by
  obtain ⟨oc, od, doc, pm, an, cdv, ct, osl, p1, p2, q1, q2, q3, q4, ho, hcd⟩ := T.fn
  obtain ⟨nm, q, N, bs, bm, sn, sub, ab, col, dd, k0, k1, k2, k3, k5, hC, hbm⟩ := T.cls
  have hcl : clsIn K C = some { name := nm, bases := bs, mro := .ref C :: bm, ns := N, qualname := q, hasDict := true, slotNames := sn, subclasses := sub, abstract := ab, collection := col, hasDel := false } := by unfold clsIn; rw [hC] <;> rfl
  refine Att.call_fn (binds := [("self", .ref x), ("at", v)]) X hlim ho hcd hroom (BindsTo.of_eq (by first | rfl | with_unfolding_all rfl)) (by first | rfl | decide | with_unfolding_all rfl) (fun s₁ IC => ?_) rfl rfl rfl
  obtain ⟨h₁, tk₁, rfl⟩ := IC.toInCall.same
  have k : ∀ b o, s.heap.get? b = some o → h₁.get? b = some o := IC.toInCall.keep
  have hn := IC.toInCall.ns
  have hxL : s.heap.objs.size ≠ x := Nat.ne_of_gt (Heap.lt_size hx)
  have X₁ : K.In h₁ := X.keeps k
  have hx₁ := k _ _ hx
  show wpAny _ _ (execs _ _) _ _ _
  refine wpAny_execs_cons (plainObj_wpAny_Assign_Attribute ?_)
  refine slot_ld (v := v) hn (by first | rfl | with_unfolding_all rfl | kernel_rfl) (slot_ld (v := .ref x) hn (by first | rfl | with_unfolding_all rfl | kernel_rfl) ?_)
  refine set_plain X₁ (ox := excO C t0) (od := none) ⟨hx₁, rfl, rfl, trivial⟩ T.sa ?_
  refine first_store X₁ hx₁ hcl (show exRow (.ref C :: bm) = true from hbm) rfl T.noN (fun h₃ tk₃ dx k₃ dn dne hx₃ hn₃ => ?_)
  show wpAny _ _ (execs _ _) _ _ _
  have z : s.heap.objs.size < h₁.objs.size := hn.lt
  exact wpAny_execs_nil (hq h₃ tk₃ dx ⟨fun b o hb e => k₃ b o hb (k b o e), hx₃, Nat.le_of_lt (Nat.lt_of_lt_of_le z dn), dne, hn₃⟩)
theorem made_run (T : Tx K mg x0 q0 C fI) {v : Value} (X : K.In s.heap) (hlim : s.heap.NoLimit) (hroom : A.depth + 1 < recursionLimit)
    (hq : ∀ h' tk e d, Made s.heap h' e C d v → R (.ok (.ret (.ref e))) { s with heap := h', toks := tk }) :
    codeAny (model prog w) A (.call (.ref C) ⟨[v], []⟩) R s := by
  obtain ⟨nm, q, N, bs, bm, sn, sub, ab, col, dd, k0, k1, k2, k3, k5, hC, hbm⟩ := T.cls
  obtain ⟨hp, g, dr, tk, os⟩ := s
  have k : ∀ b o, hp.get? b = some o → ((hp.push (kdv_tup [v])).push (excO C hp.objs.size)).get? b = some o := fun b o e => Heap.get?_push_of_some _ (Heap.get?_push_of_some _ e)
  have hget : ((hp.push (kdv_tup [v])).push (excO C hp.objs.size)).get? (hp.objs.size + 1) = some (excO C hp.objs.size) := by heap_get
  have hnx : K.lookup (hp.objs.size + 1) = none := by
    cases e : K.lookup (hp.objs.size + 1) with
    | none => rfl
    | some o =>
      have z : hp.get? (hp.objs.size + 1) = some o := X _ _ e
      exact absurd (Nat.lt_of_succ_lt (Heap.lt_size z)) (Nat.lt_irrefl _)
  refine call_own F.excBase_Exception (fun X => exRow_has X bm hbm) (X _ _ hC) (looks_findIn X T.iC) (fun self => bind_fn X self T.tC) (one_size v) ?_
  refine init_run (s := ⟨(hp.push (kdv_tup [v])).push (excO C hp.objs.size), g, dr, tk, os⟩) T (X.keeps k) (hlim.keeps k) hget hnx ?_ fun h' tk' dx ⟨k', hx, dn, dne, hns⟩ => ?_
  · show A.depth + 1 < recursionLimit
    exact hroom
  · have old : ∀ b o, hp.get? b = some o → h'.get? b = some o := fun b o e => k' b o (Nat.ne_of_lt (Nat.lt_succ_of_lt (Heap.lt_size e))) (k b o e)
    have z : hp.objs.size + 1 + 1 ≤ dx := by
      first
        | (simpa only [Heap.size_push] using dn)
        | exact dn
        | (have q := dn; rw [Heap.size_push, Heap.size_push] at q; exact q)
    exact ⟨rfl, hq h' tk' (hp.objs.size + 1) dx ⟨old, Nat.le_succ _, ⟨_, _, hx, rfl, rfl, rfl, rfl⟩, Nat.le_trans (Nat.le_trans (Nat.le_succ _) (Nat.le_succ _)) z, dne, hns⟩⟩
end
end Eat
end Bx
namespace Bx
namespace Eat
open PySem PySem.Spec PyProof.Rows L2
theorem rel_at {v : V} {v' : Value} (r : RelV v v') (f : Str) : RelO (List.lookup f [(("at" : Str), v)]) (if f = "at" then some v' else none) := by
  by_cases hw : f = "at"
  · subst hw
    rw [if_pos rfl]
    have q : List.lookup ("at" : Str) [(("at" : Str), v)] = some v := by simp [List.lookup]
    rw [q]
    exact r
  · rw [if_neg hw]
    have qw : (f == ("at" : Str)) = false := by simpa using hw
    have q2 : List.lookup f [(("at" : Str), v)] = none := by simp [List.lookup, qw]
    rw [q2]
    trivial
section
variable {X : Cx} {C fI : Addr} {x0 q0 : Str}
/-- x0(e), an error with the field -/
def tMk (C : Addr) (ta : TA) : L2.St → Hp → XK → Prop := fun σ H Q => ta σ H fun vs H1 => ∃ v, vs = [v] ∧ ∀ d, H1 d = none → Q (.ref C) (some d) (upd H1 d (.xd [(("at" : Str), v)]))
theorem pmk {a : Expr} {ta : TA} {p pos : Pos} {k : Nat} (T : Tx X.K X.mg x0 q0 C fI) (hr : Room k X.A) (ha : PA X [a] ta) (hg : Gl X x0) (hdb : (x0 == ("__debug__" : Str)) = false := by decide)
    (he : starEach (a :: []) X.env = (false, eval a X.env) :: starEach [] X.env := by rfl) (hpl : (backTo pos (starEach [] X.env)).any (·.1) = false := by rfl) :
    PMk X (.Call (.Name x0 p) [a] [] pos) (tMk C ta) := by
  intro pins s σ H Q I h
  refine wpAny_Call_Name_kw (ld_glob I hg T.gC ?_ hdb)
  refine PySem.W.callWith_K (h₀ := X.base) I.ok.mod.kin T.kC (thn (ha.run pos pins s σ H _ I h) fun us s1 hh => ?_) he hpl
  obtain ⟨vs, H1, I1, r1, v, ev, q1⟩ := hh
  subst ev
  refine ⟨I1.kIn, ?_⟩
  cases r1 with
  | cons rv rn =>
    rename_i v' us'
    cases rn
    show wpAny _ _ (call (.ref C) [v']) _ _ _
    have hlim := I1.nolimit
    obtain ⟨hp, g, dr, tk, os⟩ := s1
    refine wpAny_call (made_run T I1.kIn hlim (by have := hr.dp; omega) fun h' tk' e d M => ?_)
    show MkP X pins σ Q (.ref e) ⟨h', g, dr, tk', os⟩
    obtain ⟨oe, fv, hoe, hc, hd, hdat, h1⟩ := M.obj
    have hns := M.ns
    obtain ⟨G', g1, g2⟩ := restrict h' fun b => decide (b ≠ e)
    have gk : ∀ b, b ≠ e → G'.get? b = h'.get? b := fun b hb => g1 b (decide_eq_true hb)
    have ge : G'.get? e = none := g2 e (by simp)
    have old : ∀ b o, hp.get? b = some o → G'.get? b = some o := fun b o q => (gk b (Nat.ne_of_lt (Nat.lt_of_lt_of_le (Heap.lt_size q) M.new))).trans (M.keep b o q)
    have ob : ObjOk X.prog X.w (upd H1 d (.xd [(("at" : Str), v)])) G' d (.xd [(("at" : Str), v)]) :=
      ⟨_, hns.at (fun o q => (gk d M.dne).trans q), fun f => rel_at rv f⟩
    have J : Inv X pins σ (upd H1 d (.xd [(("at" : Str), v)])) ⟨G', g, dr, tk', os⟩ := I1.laid (t' := tk') old M.dbig ob
    refine ⟨e, oe, fv, ⟨G', g, dr, tk', os⟩, _, .ref C, some d, rfl, J, fun b o q => ?_, ge, hoe, ⟨hc, hd⟩, hdat, h1, ?_, rfl, I1.bare, raises_own T.exC T.tyC, q1 d (I1.hok.fresh M.dbig)⟩
    · by_cases hb : b = e
      · have q' : G'.get? b = some o := q
        rw [hb, ge] at q'; cases q'
      · exact (gk b hb).symm.trans q
    · rw [upd_ne (Ne.symm M.dne)]
      exact I1.hok.fresh M.new
/-- raise x0(e) -/
def tRaise (C : Addr) (W : WX) (ta : TA) : TS := fun _ σ H => tMk C ta σ H fun cls d H' => W cls d σ H'
theorem ps {a : Expr} {ta : TA} {W : WX} {p pos pos2 : Pos} {k : Nat} (hc : X.calm = true) (T : Tx X.K X.mg x0 q0 C fI) (hr : Room k X.A) (tk : Takes X W) (ha : PA X [a] ta) (hg : Gl X x0) (hdb : (x0 == ("__debug__" : Str)) = false := by decide)
    (he : starEach (a :: []) X.env = (false, eval a X.env) :: starEach [] X.env := by rfl) (hpl : (backTo pos (starEach [] X.env)).any (·.1) = false := by rfl) :
    PS X (.Raise (some (.Call (.Name x0 p) [a] [] pos)) none pos2) (tRaise C W ta) := ps_raise hc tk (pmk T hr ha hg hdb he hpl)
theorem x_raise {W : WX} {ta : TA} {σ : L2.St} {H : Hp} {n b c : L2.St → Hp → Prop} {r : VK} (q : ta σ H fun vs H1 => ∃ v, vs = [v] ∧ ∀ d, H1 d = none → W (.ref C) (some d) σ (upd H1 d (.xd [(("at" : Str), v)]))) : tRaise C W ta ⟨n, r, b, c⟩ σ H := q
/-- n.at, n the error that the suite holds (at a; its class cls, its dict d) -/
def tBy (C : Addr) (a : Addr) (cls : Value) (d : Option Addr) (te : TE) : TE := fun σ H Q => te σ H fun x H1 => x = .ref a ∧ cls = .ref C ∧ ∃ (dd : Addr) (v : V), d = some dd ∧ H1 dd = some (.xd [(("at" : Str), v)]) ∧ Q v H1
theorem x_by {a dd : Addr} {te : TE} {σ : L2.St} {H : Hp} {Q : VK} {v : V} (q : te σ H fun x H1 => x = .ref a ∧ H1 dd = some (.xd [(("at" : Str), v)]) ∧ Q v H1) (m : ∀ Q Q' : VK, (∀ v H, Q v H → Q' v H) → te σ H Q → te σ H Q') : tBy C a (.ref C) (some dd) te σ H Q :=
  m _ _ (fun _ _ z => ⟨z.1, rfl, dd, v, rfl, z.2.1, z.2.2⟩) q
theorem pe_by {a : Addr} {oe : Obj} {cls : Value} {d : Option Addr} {pn : List (Addr × Obj)} {e : Expr} {te : TE} {pos : Pos} (T : Tx X.K X.mg x0 q0 C fI) (hz : Zc cls d oe) (hf : ∃ vs, oe.data = .fields vs) (he : PE (X.suite a ((a, oe) :: pn)) e te)
    (hb : attributeBase e "at" X.env (eval e X.env) = eval e X.env := by rfl) :
    PE (X.suite a ((a, oe) :: pn)) (.Attribute e "at" pos) (tBy C a cls d te) := by
  refine ⟨fun pins s σ H Q I h => ?_⟩
  refine attr_of hb (thn (he.run pins s σ H _ I h) fun u s1 hh => ?_)
  obtain ⟨x, H1, I1, rx, ex, ec, dd, v, ed, ea, q⟩ := hh
  subst ex
  obtain rfl : u = Value.ref a := rx
  subst ec
  subst ed
  obtain ⟨ha, _⟩ := I1.pin (a, oe) (List.mem_append_left _ List.mem_cons_self)
  obtain ⟨vs, hd⟩ := hf
  have hx : ObjOk X.prog X.w H1 s1.heap dd (.xd [(("at" : Str), v)]) := I1.hok dd _ ea
  obtain ⟨mA, hns, hr⟩ := hx
  obtain ⟨od, ho, hl⟩ := lookIn_ns hns
  have l : List.lookup ("at" : Str) [(("at" : Str), v)] = some v := by simp [List.lookup]
  obtain ⟨u, hu, ru⟩ := RelO.some_of (v := v) (o := mA "at") (by rw [← l]; exact hr "at")
  have J : PySem.W.InstAt s1.heap a oe C (some od) := ⟨ha, hz.1, by unfold PySem.W.notCls; rw [hd] <;> rfl, by rw [hz.2]; exact ho⟩
  exact HandSPX.exc_get I1.kIn J T.ga T.gg T.exC (PySem.W.findObj_own T.hdC T.noN rfl (by rw [hl, hu])) (handed_of ru) ⟨v, H1, I1.tok _, ru, q⟩
end
end Eat
end Bx
namespace Bx
open PySem PySem.Spec PyProof.Rows L2
abbrev exB : List Value := [.type "Exception", .type "BaseException", .type "object"]
/-- an own error without an __init__ of its own, or the base of all -/
structure Tx0 (K : PySem.W.Frag) (mg : Str → Option Value) (x : Str) (C : Addr) : Prop where
  gC : mg x = some (.ref C)
  q : PySem.W.excIn K C exB "Exception.__new__" = true
  kC : PySem.W.keepIn K (.ref C) = true
  exC : PySem.W.subIn K (.ref C) (.type "BaseException") = some true
  tyC : PySem.W.typeIn K (.ref C) = some (.type "type")
section
variable {X : Cx} {C : Addr} {x : Str} {W : WX} {p pos pos2 : Pos}
theorem pmk0 (T : Tx0 X.K X.mg x C) (hg : Gl X x) (hdb : (x == ("__debug__" : Str)) = false := by decide) : PMk X (.Call (.Name x p) [] [] pos) (fun _ H Q => Q (.ref C) none H) := by
  intro pins s σ H Q I h
  refine wpAny_Call_Name_kw (ld_glob I hg T.gC ?_ hdb)
  refine PySem.W.callWith_K0 I.kIn T.kC ?_
  show wpAny _ _ (call (.ref C) []) _ _ _
  obtain ⟨bm, N, nm, qn, bs, hdct, sn, sub, ab, col, dd, k0, k1, k2, k3, k5, mN, hC, hN, hni, Tt⟩ := exc_obj I.kIn T.q
  refine wpAny_call_exc_subT PySem.F.excBase_Exception Tt hC hN hni (fun h' e hm => ?_) (by show 0 ≤ sizeLine; omega)
  exact mk_of I hm (raises_own T.exC T.tyC) h (I.hok.gone hm.new)
def tRaise0 (C : Addr) (W : WX) : TS := fun _ σ H => W (.ref C) none σ H
theorem ps_raise0 (hc : X.calm = true) (T : Tx0 X.K X.mg x C) (tk : Takes X W) (hg : Gl X x) (hdb : (x == ("__debug__" : Str)) = false := by decide) : PS X (.Raise (some (.Call (.Name x p) [] [] pos)) none pos2) (tRaise0 C W) := ps_raise hc tk (pmk0 T hg hdb)
theorem x_raise0 {σ : L2.St} {H : Hp} {n b c : L2.St → Hp → Prop} {r : VK} (q : W (.ref C) none σ H) : tRaise0 C W ⟨n, r, b, c⟩ σ H := q
end
open PySem.W in
/-- an error of the class at C is what «except S» names -/
theorem names_of {K : Frag} {C S : Addr} (h1 : subIn K (.ref S) (.type "BaseException") = some true) (h2 : isClsIn K S = true) (h3 : typeIn K (.ref S) = some (.type "type")) (h4 : subIn K (.ref C) (.ref S) = some true) :
    exmOne K (.ref C) (.ref S) = some true := by
  have e1 : (subIn K (.ref S) (.type "BaseException") == some true) = true := by rw [h1] <;> rfl
  have e2 : ((clsIn K S).isSome && typeIn K (.ref S) == some (.type "type")) = true := by
    have h2' : (clsIn K S).isSome = true := h2
    rw [h2', h3] <;> rfl
  show (if (subIn K (.ref S) (.type "BaseException") == some true) = true then (if ((clsIn K S).isSome && typeIn K (.ref S) == some (.type "type")) = true then subIn K (.ref C) (.ref S) else none) else none) = some true
  rw [if_pos e1, if_pos e2]
  exact h4
end Bx
namespace Bx
open PySem PySem.Spec PyProof.Rows L2
/-- the j-th statement of a class's body -/
def sub (s : Stmt) (j : Nat) : Stmt := match s with
  | .ClassDef _ _ _ b _ _ _ _ _ _ _ => b.getD j (.Pass ⟨0, 0, 0, 0⟩)
  | _ => .Pass ⟨0, 0, 0, 0⟩
/-! ### methods of an own class -/
structure OkM (CT : CXT) (P : Program) (w : World) (K : PySem.W.Frag) (mg : Str → Option Value) (base : Heap) (k : Nat) (C : Addr) (m : Str) (ps : List Str) (sp : Sp) : Prop where
  ex : ∃ f fd, FnOk P w K mg base CT k f fd ps sp ∧ Meth K C m f ∧ Binds K fd ps []
structure OkMK (CT : CXT) (P : Program) (w : World) (K : PySem.W.Frag) (mg : Str → Option Value) (base : Heap) (k : Nat) (C : Addr) (m : Str) (ps : List Str) (sp : Sp) (ks : List Str) (idx : List Nat) : Prop where
  ex : ∃ f fd, FnOk P w K mg base CT k f fd ps sp ∧ Meth K C m f ∧
    ∀ us ws : List Value, us.length = 1 → ws.length = ks.length → bindArgs fd ⟨us, ks.zip ws⟩ = pure (ps.zip (us ++ idx.map fun i => ws.getD i .none))
structure OkI (CT : CXT) (P : Program) (w : World) (K : PySem.W.Frag) (mg : Str → Option Value) (base : Heap) (k : Nat) (C : Addr) (x : Str) (ps : List Str) (sp : Sp) : Prop where
  ex : ∃ f fd, FnOk P w K mg base CT k f fd ps sp ∧ Mk K C f ∧ mg x = some (.ref C) ∧ Binds K fd ps []
/-- o.m(e, ..) -/
def tM (C : Addr) (m : Str) (sp : Sp) (E : L2.St → XK) (ta : TE) (t : TA) : TE := fun σ H Q => ta σ H fun x H1 => ∃ a dx fs, x = .ref a ∧ H1 a = some (.ins C dx fs) ∧ fs.lookup m = none ∧ t σ H1 fun vs H2 => sp (x :: vs) H2 Q (E σ)
/-- o.m(k = e, ..) -/
def tMK (C : Addr) (m : Str) (n : Nat) (sp : Sp) (idx : List Nat) (E : L2.St → XK) (ta : TE) (tk : TA) : TE := fun σ H Q => ta σ H fun x H1 => ∃ a dx fs, x = .ref a ∧ H1 a = some (.ins C dx fs) ∧ fs.lookup m = none ∧
  tk σ H1 fun zs H2 => zs.length = n ∧ sp (x :: idx.map fun i => zs.getD i .non) H2 Q (E σ)
section
variable {X : Cx} {CT : CXT} {k : Nat} {C : Addr} {m x : Str} {ps ks : List Str} {sp : Sp} {idx : List Nat} {E : L2.St → XK} {o e : Expr} {es : List Expr} {kws : List Keyword} {ta : TE} {t tk : TA} {p apos pos : Pos} {pl : Sem Bool}
theorem pe_m (c : Cls X.K C) (O : OkM CT X.prog X.w X.K X.mg X.base k C m ps sp) (hr : Room k X.A) (hx : ∀ σ, PassesAt CT X σ (E σ)) (he : PE X o ta) (ha : PA X (e :: es) t)
    (hst : starEach (e :: es) X.env = (false, eval e X.env) :: starEach es X.env := by rfl) (hpl : (backTo pos (starEach es X.env)).any (·.1) = false := by rfl)
    (ht : eval (.Call (.Attribute o m apos) (e :: es) [] pos) X.env = (do
      let ov ← eval o X.env
      standAt apos.atName
      let (f, first) ← holding [ov] (getMethod ov m pl)
      callWith pos f first (backTo pos (starEach (e :: es) X.env)) (backToKw pos (keywordEach [] X.env))) := by rfl) :
    PE X (.Call (.Attribute o m apos) (e :: es) [] pos) (tM C m sp E ta t) := by
  obtain ⟨f, fd, F, hm, hb⟩ := O.ex
  refine ⟨fun pins s σ H Q I h => ?_⟩
  refine PySem.W.methodCall_KW (pl := pl) (thn (he.run pins s σ H _ I h) fun u s1 ⟨x, H1, I1, rx, a, dx, fs, ex, ea, l, q⟩ => ?_) ht
  subst ex
  obtain rfl : u = Value.ref a := rx
  refine getmeth_ok I1 ea c hm l ?_
  refine PySem.W.callWith_K (first := [.ref a]) (h₀ := X.base) I.ok.mod.kin hm.kp (thn (ha.run pos pins s1 σ H1 _ I1 q) fun us s2 ⟨vs, H2, I2, r, q2⟩ => ⟨I2.kIn, ?_⟩) hst hpl
  exact run_fnS (us := .ref a :: us) (vs := .ref a :: vs) F hr hb (hx σ) I2 (.cons rfl r) q2
theorem pe_m0 (c : Cls X.K C) (O : OkM CT X.prog X.w X.K X.mg X.base k C m ps sp) (hr : Room k X.A) (hx : ∀ σ, PassesAt CT X σ (E σ)) (he : PE X o ta)
    (ht : eval (.Call (.Attribute o m apos) [] [] pos) X.env = (do
      let ov ← eval o X.env
      standAt apos.atName
      let (f, first) ← holding [ov] (getMethod ov m pl)
      callWith pos f first (backTo pos (starEach [] X.env)) (backToKw pos (keywordEach [] X.env))) := by rfl) :
    PE X (.Call (.Attribute o m apos) [] [] pos) (tM C m sp E ta tNil) := by
  obtain ⟨f, fd, F, hm, hb⟩ := O.ex
  refine ⟨fun pins s σ H Q I h => ?_⟩
  refine PySem.W.methodCall_KW (pl := pl) (thn (he.run pins s σ H _ I h) fun u s1 ⟨x, H1, I1, rx, a, dx, fs, ex, ea, l, q⟩ => ?_) ht
  subst ex
  obtain rfl : u = Value.ref a := rx
  refine getmeth_ok I1 ea c hm l ?_
  exact PySem.W.callWith_K0 (first := [.ref a]) I1.kIn hm.kp (run_fnS (us := [.ref a]) (vs := [.ref a]) F hr hb (hx σ) I1 (.cons rfl .nil) q)
theorem run_fnMK {pins : List (Addr × Obj)} {σ : L2.St} {H : Hp} {s : Shared} {Q : VK} {ws : List Value} {zs : List V} {a f : Addr} {fd : FuncData} {E : XK} (F : FnOk X.prog X.w X.K X.mg X.base CT k f fd ps sp) (hr : Room k X.A)
    (hb : ∀ us ws : List Value, us.length = 1 → ws.length = ks.length → bindArgs fd ⟨us, ks.zip ws⟩ = pure (ps.zip (us ++ idx.map fun i => ws.getD i .none))) (hx : PassesAt CT X σ E)
    (I : Inv X pins σ H s) (rz : Vals zs ws) (l2 : zs.length = ks.length) (h : sp (.ref a :: idx.map fun i => zs.getD i .non) H Q E) : wpAny (model X.prog X.w) X.A (call (.ref f) [.ref a] (ks.zip ws)) (EP X pins σ Q) X.xe s := by
  have r2 : Vals (.ref a :: idx.map fun i => zs.getD i .non) ([.ref a] ++ idx.map fun i => ws.getD i .none) := .cons rfl (vals_idx rz idx)
  refine wpAny_call (codeAny_mono (F.run X.A X.stack s H ⟨[.ref a], ks.zip ws⟩ _ _ Q E hr I.env0 (.of_eq (hb [.ref a] ws rfl (rz.length.symm.trans l2))) r2 h) fun r s' hq => ?_)
  cases r with
  | error e => exact hx pins H s e s' I hq
  | ok fl =>
    cases fl with
    | ret u => exact I.after hq
    | next => exact False.elim hq
    | brk => exact False.elim hq
    | cont => exact False.elim hq
theorem pe_mK {n : Nat} (c : Cls X.K C) (O : OkMK CT X.prog X.w X.K X.mg X.base k C m ps sp ks idx) (hr : Room k X.A) (hx : ∀ σ, PassesAt CT X σ (E σ)) (he : PE X o ta) (hkw : PK X kws tk)
    (hall : (backToKw pos (keywordEach kws X.env)).all (·.1.isSome) = true := by rfl) (hks : (backToKw pos (keywordEach kws X.env)).filterMap (·.1) = ks := by rfl) (hn : ks.length = n := by rfl)
    (hpl : ((backTo pos (starEach [] X.env)).any (·.1) || (backToKw pos (keywordEach kws X.env)).any (·.1.isNone)) = false := by rfl)
    (ht : eval (.Call (.Attribute o m apos) [] kws pos) X.env = (do
      let ov ← eval o X.env
      standAt apos.atName
      let (f, first) ← holding [ov] (getMethod ov m pl)
      callWith pos f first (backTo pos (starEach [] X.env)) (backToKw pos (keywordEach kws X.env))) := by rfl) :
    PE X (.Call (.Attribute o m apos) [] kws pos) (tMK C m n sp idx E ta tk) := by
  subst hn
  obtain ⟨f, fd, F, hm, hb⟩ := O.ex
  refine ⟨fun pins s σ H Q I h => ?_⟩
  refine PySem.W.methodCall_KW (pl := pl) (thn (he.run pins s σ H _ I h) fun u s1 ⟨x, H1, I1, rx, a, dx, fs, ex, ea, l, q⟩ => ?_) ht
  subst ex
  obtain rfl : u = Value.ref a := rx
  refine getmeth_ok I1 ea c hm l ?_
  refine PySem.W.callWith_KW0 (first := [.ref a]) (h₀ := X.base) I.ok.mod.kin hm.kp hall ?_ hpl
  refine thn (hkw.run pos pins s1 σ H1 _ I1 q) fun ws s2 ⟨zs, H2, I2, rz, l2, q2⟩ => ⟨I2.kIn, ?_⟩
  rw [hks]
  exact run_fnMK F hr hb (hx σ) I2 rz l2 q2
/-- C() -/
theorem pe_mk0 (O : OkI CX0 X.prog X.w X.K X.mg X.base k C x ps sp) (hr : Room (k + 1) X.A) (hg : Gl X x) (hdb : (x == ("__debug__" : Str)) = false := by decide) : PE X (.Call (.Name x p) [] [] pos) (tMake C sp [] E0 tNil) := by
  obtain ⟨f, fd, F, M, hm, hb⟩ := O.ex
  exact pe_make0 M F hr hg hm hb .nil pass0 hdb
/-- nothing is raised -/
theorem no0 : ∀ σ : L2.St, PassesAt CX0 X σ ((fun _ => E0) σ) := fun _ _ _ _ _ _ _ h => h.elim
theorem noL : ∀ σ : L2.St, PassesAt (L2.CX X.prog X.w) X σ ((fun _ => E0) σ) := fun σ pins H s e s' I h => passL pins σ H s e s' I h
theorem goL {W : WX} (tk : Takes X W) : ∀ σ : L2.St, PassesAt (L2.CX X.prog X.w) X σ (WE W σ) := fun σ => passAt tk σ
end
section
variable {K : PySem.W.Frag} {C dx a p : Addr} {fs : List (Str × V)} {σ : L2.St} {H : Hp} {Q : VK} {v y : V} {f m : Str} {i : Nat} {tv : TE} {t tk : TA} {sp : Sp} {E : L2.St → XK} {n b c : L2.St → Hp → Prop} {r : VK}
theorem x_fld (hi : σ[i]? = some (some (.ref a))) (h : H a = some (.ins C dx fs)) (k : Cls K C) (na : NoAttr K C f) (l : fs.lookup f = some v) (q : Q v H) : tFld K (tVar i) f σ H Q := ⟨.ref a, hi, a, C, dx, fs, v, rfl, h, k, na, l, q⟩
theorem x_sfld (q : tv σ H fun y H1 => σ[i]? = some (some (.ref a)) ∧ H1 a = some (.ins C dx fs) ∧ Cls K C ∧ NoAttr K C f ∧ fs.length < 1000 ∧ n σ (upd H1 a (.ins C dx (putF f y fs)))) (mo : ∀ Q Q' : VK, (∀ v H, Q v H → Q' v H) → tv σ H Q → tv σ H Q') : sFld K (tVar i) tv f ⟨n, r, b, c⟩ σ H :=
  mo _ _ (fun y H1 ⟨hi, h, k, na, l, q⟩ => ⟨.ref a, hi, a, C, dx, fs, rfl, h, k, na, l, q⟩) q
theorem x_m (hi : σ[i]? = some (some (.ref a))) (h : H a = some (.ins C dx fs)) (l : fs.lookup m = none) (q : t σ H fun vs H2 => sp (.ref a :: vs) H2 Q (E σ)) : tM C m sp E (tVar i) t σ H Q := ⟨.ref a, hi, a, dx, fs, rfl, h, l, q⟩
theorem x_mK {k : Nat} {idx : List Nat} (hi : σ[i]? = some (some (.ref a))) (h : H a = some (.ins C dx fs)) (l : fs.lookup m = none) (q : tk σ H fun zs H2 => zs.length = k ∧ sp (.ref a :: idx.map fun i => zs.getD i .non) H2 Q (E σ)) : tMK C m k sp idx E (tVar i) tk σ H Q := ⟨.ref a, hi, a, dx, fs, rfl, h, l, q⟩
theorem x_mk (q : ∀ x dx, H x = none → H dx = none → dx ≠ x → sp [.ref x] (upd (upd H dx (.own x)) x (.ins C dx [])) (fun v H2 => v = .non ∧ Q (.ref x) H2) E0) : tMake C sp [] E0 tNil σ H Q := q
end
/-! ### dicts with numbers as keys -/
def rInDK : R2 := fun x y H Q => ∃ (a : Addr) (o : Option V), y = .ref a ∧ DGet H a x o ∧ Q (.bl o.isSome) H
theorem op_inDK {X : Cx} (hu : X.A.units + 1 < cLine) : OpR X (compareOp .In) rInDK := by
  intro pins s σ H x y v u Q I rx ry h
  obtain ⟨a, o, rfl, g, q⟩ := h
  obtain rfl : u = Value.ref a := ry
  exact d_in hu I g rx fun s3 I3 => ⟨.bl o.isSome, H, I3, rfl, q⟩
section
variable {H : Hp} {Q : VK} {a : Addr} {kvs : List (Key × V)} {i : Int} {v d : V} {td ty tx : TE} {σ : L2.St}
theorem x_inDK (h : H a = some (.dK kvs)) (q : Q (.bl (valV kvs (.inl i)).isSome) H) : rInDK (.int i) (.ref a) H Q := ⟨a, _, rfl, DGet.k (k := .inl i) h, q⟩
theorem x_setDK {Qh : Hp → Prop} (h : H a = some (.dK kvs)) (hl : kvs.length < 100000) (q : Qh (upd H a (.dK (putK kvs (.inl i) v)))) : rSetD (.ref a) (.int i) v H Qh := ⟨a, _, rfl, DPut.k (k := .inl i) h (szl hl), q⟩
theorem isD_k (h : H a = some (.dK kvs)) : IsD H a := .inl ⟨kvs, .inl h⟩
end
/-! ### texts -/
def rAddStr : R2 := fun x y H Q => ∃ i j, x = .str i ∧ y = .str j ∧ i.length + j.length ≤ sizeLine ∧ Q (.str (i ++ j)) H
theorem op_addStr {X : Cx} : OpR X (binaryOp .Add) rAddStr := op_add_str
def rLenS : List V → Hp → VK → Prop := fun xs H Q => ∃ z, xs = [.str z] ∧ z.length ≤ sizeLine ∧ Q (.int z.length) H
theorem c_lenS {X : Cx} : CallR X (.builtin "len") rLenS := call_len_str
def repS (z : Str) (n : Nat) : Str := ⟨(List.replicate n z.cps).foldl (· ++ ·) #[]⟩
def rMulS : R2 := fun x y H Q => ∃ (z : Str) (n : Nat), x = .str z ∧ y = .int (n : Int) ∧ 2 ≤ n ∧ n ≤ 100000 ∧ 1 ≤ z.length ∧ z.length ≤ 100 ∧ Q (.str (repS z n)) H
theorem repS_len (z : Str) : ∀ n, (repS z n).length = n * z.length := by
  have gen : ∀ (n : Nat) (acc : Array Nat), ((List.replicate n z.cps).foldl (· ++ ·) acc).size = acc.size + n * z.length := by
    intro n
    induction n with
    | zero => intro acc; simp
    | succ n ih =>
      intro acc
      rw [List.replicate_succ, List.foldl_cons, ih, Array.size_append]
      show acc.size + z.length + n * z.length = acc.size + (n + 1) * z.length
      rw [Nat.add_mul]
      omega
  intro n
  show ((List.replicate n z.cps).foldl (· ++ ·) #[]).size = _
  rw [gen]
  simp
theorem op_mulS {X : Cx} : OpR X (binaryOp .Mult) rMulS := by
  intro pins s σ H x y v u Q I rx ry h
  obtain ⟨z, n, rfl, rfl, h1, h2, h3, h4, q⟩ := h
  obtain ⟨t, rfl⟩ := rx
  obtain ⟨t', rfl⟩ := ry
  have hb : z.length * n ≤ 10000000 := Nat.le_trans (Nat.mul_le_mul h4 h2) (by decide)
  have n1 : ¬ (n : Int) < 1 := by omega
  have e1 : ((n : Int) == 1 || z.length == 0) = false := by
    rw [Bool.or_eq_false_iff]
    exact ⟨beq_eq_false_iff_ne.mpr (by omega), beq_eq_false_iff_ne.mpr (by omega)⟩
  refine PySem.P.mul_str (by rw [decide_eq_false (by omega), decide_eq_false (by omega)]; rfl) (fun _ _ => ?_) (fun _ _ => ?_) ?_
  · have e : (z.length : Int) * (n : Int) = ((z.length * n : Nat) : Int) := (Int.natCast_mul _ _).symm
    have : (z.length : Int) * n ≤ 2 ^ 63 - 1 := by
      rw [e]
      generalize z.length * n = q at hb
      omega
    have := Int.le_ediv_of_mul_le (by omega : (0 : Int) < n) this
    omega
  · rw [Int.toNat_natCast]
    exact short24 (by omega)
  · rw [if_neg n1, if_neg (by rw [e1]; decide), Int.toNat_natCast]
    have hl : (repS z n).length ≤ sizeLine := by
      rw [repS_len, sizeLine_eq, Nat.mul_comm]
      omega
    exact ⟨by first | exact hl | (have := hl; simpa [repS] using this), ⟨.str (repS z n), H, I.tok _, ⟨_, rfl⟩, q⟩⟩
theorem x_lenStr {z : Str} {H : Hp} {Q : VK} (h : z.length ≤ 100000) (q : Q (.int (z.length : Int)) H) : rLenS [.str z] H Q := ⟨z, rfl, sz h, q⟩
theorem x_ixStr {z : Str} {i : Int} {c : Nat} {H : Hp} {Q : VK} (h : z.length ≤ 100000) (e : atI z.cps.toList i = some c) (q : Q (.str ⟨#[c]⟩) H) : rIxS (.str z) (.int i) H Q := ⟨z, i, c, rfl, rfl, sz h, e, q⟩
theorem x_addS {i j : Str} {H : Hp} {Q : VK} (h : i.length + j.length ≤ 100000) (q : Q (.str (i ++ j)) H) : rAddStr (.str i) (.str j) H Q := ⟨i, j, rfl, rfl, sz h, q⟩
theorem x_mulS {z : Str} {k : Int} {n : Nat} {H : Hp} {Q : VK} (hk : k = (n : Int)) (h1 : 2 ≤ n) (h2 : n ≤ 100000) (h3 : 1 ≤ z.length) (h4 : z.length ≤ 100) (q : Q (.str (repS z n)) H) : rMulS (.str z) (.int k) H Q := by
  subst hk
  exact ⟨z, n, rfl, rfl, h1, h2, h3, h4, q⟩
end Bx
namespace PySem
open Builtin Builtin.Str
open L2 (Key mixKind)
/-- a table that drops 10, says something of 37, and nothing of the rest -/
def Drops (f : Key → Option Value) : Prop := f (.inl 10) = some .none ∧ ∀ c : Nat, c ≠ 10 → c ≠ 37 → f (.inl (c : Int)) = none
section
variable {prog : Program} {w : World} {A : Around} {E : Value → Shared → Prop} {s : Shared} {d : Addr} {c : Nat}
theorem mapOfK_keeps {h h' : Heap} {a : Addr} {f : Key → Option Value} (m : h.MapOf (mixKind prog w) a f) (k : ∀ b o, h.get? b = some o → h'.get? b = some o) : h'.MapOf (mixKind prog w) a f := by
  obtain ⟨o, es, ep, ho, r⟩ := m
  exact ⟨o, es, ep, k _ _ ho, r⟩
theorem tl_drops {f : Key → Option Value} {Q : Mapped → Shared → Prop} (hh : A.handled = none) (hd : (d == sysModules) = false) (hm : s.heap.MapOf (mixKind prog w) d f) (hk : Drops f) (h37 : c ≠ 37)
    (h1 : c = 10 → ∀ h' k, (∀ b o, s.heap.get? b = some o → h'.get? b = some o) → Q .drop { s with heap := h', toks := k })
    (h2 : c ≠ 10 → ∀ h' k, (∀ b o, s.heap.get? b = some o → h'.get? b = some o) → Q .keep { s with heap := h', toks := k }) : wpAny (model prog w) A (tableLookup (.ref d) c) Q E s := by
  unfold tableLookup
  refine wpAny_bind (wpAny_attempt (wpAny_bind (wpAny_mkInt ?_)))
  by_cases hc : c = 10
  · subst hc
    refine wpAny_getItem_of (knd := mixKind prog w) (k := .inl ((10 : Nat) : Int)) (L2.kV_is (k := .inl ((10 : Nat) : Int)) ⟨_, rfl⟩) hm hk.1 ?_
    show wpAny _ _ (do let o ← asInt? Value.none; _) _ _ _
    refine wpAny_bind (wpAny_of_eq (a := none) rfl ?_)
    exact wpAny_pure (h1 rfl s.heap _ fun _ _ e => e)
  · refine wpAny_getItem_missing_of (knd := mixKind prog w) (k := .inl (c : Int)) (L2.kV_is (k := .inl (c : Int)) ⟨_, rfl⟩) hd hh hm (hk.2 c hc h37) fun h' e hx => ?_
    show wpAny _ _ (do let b ← isInstance (.ref e) (.type "LookupError"); _) _ _ _
    obtain ⟨ob, t, ho, hcl, _⟩ := hx.there
    refine wpAny_bind (wpAny_isInstance (T := "KeyError") (b := true) ⟨ob, ho, hcl⟩ key_is_lookup ?_)
    show wpAny _ _ (if true = true then (do rule "str.translate.not-in-table"; pure Mapped.keep) else _) _ _ _
    rw [if_pos rfl]
    exact wpAny_bind (wpAny_rule (wpAny_pure (h2 hc h' _ hx.keeps)))
end
/-- the signs but 10 -/
def no10 (x : List Nat) : List Nat := x.filter fun c => c != 10
theorem pieces_ones : ∀ (l : List Nat) (acc : Array Nat), List.foldl (fun acc (p : Str) => acc ++ p.cps) acc (l.map fun c => (⟨#[c]⟩ : Str)) = acc ++ l.toArray
  | [], acc => by
    show acc = acc ++ #[]
    rw [Array.append_empty]
  | c :: l, acc => by
    rw [List.map_cons, List.foldl_cons, pieces_ones l]
    apply Array.toList_inj.mp
    simp
/-- while the signs are walked -/
def DrAt (x : List Nat) (s : Shared) (rest : List Nat) (st : List Str × Nat × Bool × List (Nat × Option Nat) × Bool) (s' : Shared) : Prop :=
  ∃ (past : List Nat) (pieces : List Str) (known : List (Nat × Option Nat)) (h' : Heap) (k : Nat), x = past ++ rest ∧ st = (pieces, (no10 past).length, true, known, false) ∧ pieces.reverse = (no10 past).map (fun c => (⟨#[c]⟩ : Str)) ∧
    (∀ c a, List.lookup c known = some a → a = if c = 10 then none else some c) ∧ s' = { s with heap := h', toks := k } ∧ ∀ b o, s.heap.get? b = some o → h'.get? b = some o
theorem DrAt.keep {x : List Nat} {s : Shared} {rest past : List Nat} {c : Nat} {pieces : List Str} {known : List (Nat × Option Nat)} {h' : Heap} {k : Nat} (hc : c ≠ 10) (h1 : x = past ++ c :: rest)
    (h3 : pieces.reverse = (no10 past).map (fun c => (⟨#[c]⟩ : Str))) (h4 : ∀ c a, List.lookup c known = some a → a = if c = 10 then none else some c) (h6 : ∀ b o, s.heap.get? b = some o → h'.get? b = some o) :
    DrAt x s rest (⟨#[c]⟩ :: pieces, (no10 past).length + 1, true, known, false) { s with heap := h', toks := k } := by
  have e : no10 (past ++ [c]) = no10 past ++ [c] := by
    unfold no10
    rw [List.filter_append]
    congr 1
    simp [hc]
  refine ⟨past ++ [c], ⟨#[c]⟩ :: pieces, known, h', k, ?_, ?_, ?_, h4, rfl, h6⟩
  · rw [h1, List.append_assoc] <;> rfl
  · rw [e, List.length_append] <;> rfl
  · rw [List.reverse_cons, h3, e, List.map_append] <;> rfl
theorem DrAt.drop {x : List Nat} {s : Shared} {rest past : List Nat} {pieces : List Str} {known : List (Nat × Option Nat)} {h' : Heap} {k : Nat} (h1 : x = past ++ 10 :: rest)
    (h3 : pieces.reverse = (no10 past).map (fun c => (⟨#[c]⟩ : Str))) (h4 : ∀ c a, List.lookup c known = some a → a = if c = 10 then none else some c) (h6 : ∀ b o, s.heap.get? b = some o → h'.get? b = some o) :
    DrAt x s rest (pieces, (no10 past).length, true, known, false) { s with heap := h', toks := k } := by
  have e : no10 (past ++ [10]) = no10 past := by
    unfold no10
    rw [List.filter_append]
    simp
  refine ⟨past ++ [10], pieces, known, h', k, ?_, ?_, ?_, h4, rfl, h6⟩
  · rw [h1, List.append_assoc] <;> rfl
  · rw [e]
  · rw [e]; exact h3
theorem meets_drops {prog : Program} {w : World} (x : List Nat) (t : Tok) (d : Addr) (hd : (d == sysModules) = false) (hz : x.length ≤ 16000000) (hx : ∀ c, c ∈ x → c < 128 ∧ c ≠ 37) : MeetsIn prog w («str.translate» ⟨[.str (SX.S x) t, .ref d], []⟩) (fun A R s =>
    A.handled = none ∧ (∃ f, s.heap.MapOf (mixKind prog w) d f ∧ Drops f) ∧ ∀ (v : Value) (h' : Heap) (k : Nat), (∀ b o, s.heap.get? b = some o → h'.get? b = some o) → (∃ t', v = .str (SX.S (no10 x)) t') → R (.ok (.ret v)) { s with heap := h', toks := k }) := by
  refine .of_wp fun A R s h => ?_
  obtain ⟨hh, ⟨f, hm, hk⟩, h⟩ := h
  have hh1 : A.in1.handled = none := hh
  show wpAny _ _ (if ((SX.S x).length == 0) = true then (do rule "str.translate.empty"; ret (.str (SX.S x) t)) else (do
    let st ← forIn (SX.S x).cps (([], 0, (SX.S x).cps.all fun y => decide (y < 128), [], false) : List Str × Nat × Bool × List (Nat × Option Nat) × Bool) _
    _)) _ _ s
  by_cases h0 : ((SX.S x).length == 0) = true
  · rw [if_pos h0]
    have hx : x = [] := by
      rw [beq_iff_eq, SX.S_len] at h0
      exact List.eq_nil_of_length_eq_zero h0
    subst hx
    exact wpAny_bind (wpAny_rule (wpAny_pure ⟨_, rfl, h _ s.heap s.toks (fun _ _ e => e) ⟨t, rfl⟩⟩))
  · rw [if_neg h0]
    have hf : ((SX.S x).cps.all fun y => decide (y < 128)) = true := by
      rw [Array.all_eq_true']
      intro y hy
      have : y ∈ x := by
        have e : (SX.S x).cps.toList = x := rfl
        rw [← e]
        exact Array.mem_toList_iff.mpr hy
      exact decide_eq_true (hx y this).1
    rw [hf]
    refine wpAny_bind (MeetsSeq2.wpAny_forIn_array _ (DrAt x s) _ (fun c rest st s' hI => ?turn) (fun st s' hI => ?fin) (SX.S x).cps ([], 0, true, [], false) ?h0)
    case h0 =>
      refine ⟨[], [], [], s.heap, s.toks, ?_, rfl, rfl, fun c a z => ?_, rfl, fun _ _ e => e⟩
      · show x = [] ++ x.toArray.toList
        rw [List.toList_toArray, List.nil_append]
      · rw [List.lookup_nil] at z
        cases z
    case turn =>
      obtain ⟨past, pieces, known, h', k, e1, e2, e3, e4, e5, e6⟩ := hI
      subst e2
      subst e5
      have hc := hx c (by rw [e1]; simp)
      have hpl : (no10 past).length ≤ 16000000 := by
        have q := congrArg List.length e1
        rw [List.length_append] at q
        have : (no10 past).length ≤ past.length := List.length_filter_le _ _
        omega
      have hm' : ({ s with heap := h', toks := k } : Shared).heap.MapOf (mixKind prog w) d f := mapOfK_keeps hm e6
      show wpAny _ _ (if tooLong (no10 past).length = true then _ else (if true = true then _ else _)) _ _ _
      rw [show tooLong (no10 past).length = false from PyProof.Rows.short24 (by omega), if_neg Bool.false_ne_true, if_pos rfl]
      cases hl : List.lookup c known with
      | some a =>
        have ha := e4 c a hl
        subst ha
        refine wpAny_bind (wpAny_pure ?_)
        by_cases h10 : c = 10
        · subst h10
          rw [if_pos rfl]
          exact wpAny_pure (DrAt.drop e1 e3 e4 e6)
        · rw [if_neg h10]
          exact wpAny_pure (DrAt.keep h10 e1 e3 e4 e6)
      | none =>
        have new : ∀ b, b = (if c = 10 then none else some c) → ∀ c' a, List.lookup c' ((c, b) :: known) = some a → a = if c' = 10 then none else some c' := fun b hb c' a z => by
          rcases lookup_new z with ⟨q1, q2⟩ | q
          · rw [q2, hb, q1]
          · exact e4 c' a q
        refine wpAny_bind (tl_drops hh1 hd hm' hk hc.2 (fun h10 h2 k2 k3 => ?_) (fun h10 h2 k2 k3 => ?_))
        · subst h10
          refine wpAny_bind (wpAny_pure ?_)
          exact wpAny_pure (DrAt.drop (k := k2) (known := (10, none) :: known) e1 e3 (new none (by rw [if_pos rfl])) (fun b o z => k3 b o (e6 b o z)))
        · refine wpAny_bind (wpAny_pure ?_)
          exact wpAny_pure (DrAt.keep (k := k2) (known := (c, some c) :: known) h10 e1 e3 (new (some c) (by rw [if_neg h10])) (fun b o z => k3 b o (e6 b o z)))
    case fin =>
      obtain ⟨past, pieces, known, h', k, e1, e2, e3, e4, e5, e6⟩ := hI
      subst e2
      subst e5
      have ex : x = past := by rw [e1, List.append_nil]
      subst ex
      have lx : (no10 x).length ≤ x.length := List.length_filter_le _ _
      show wpAny _ _ (if tooLong (no10 x).length = true then _ else retStr { cps := List.foldl (fun acc (p : Str) => acc ++ p.cps) #[] pieces.reverse }) _ _ _
      rw [show tooLong (no10 x).length = false from PyProof.Rows.short24 (by omega), if_neg Bool.false_ne_true, e3, pieces_ones]
      have ev : (⟨#[] ++ (no10 x).toArray⟩ : Str) = SX.S (no10 x) := by
        rw [Array.empty_append] <;> rfl
      rw [ev]
      exact wpAny_bind (wpAny_mkStr (wpAny_pure ⟨_, rfl, h _ h' _ e6 ⟨_, rfl⟩⟩) (by rw [SX.S_len, sizeLine_eq]; omega))
end PySem
namespace Bx
open PySem PySem.Spec PyProof.Rows L2
def rTrans : V → List V → Hp → VK → Prop := fun x xs H Q => ∃ (t : List Nat) (d : Addr) (kvs : List (Key × V)), x = .str (SX.S t) ∧ xs = [.ref d] ∧ H d = some (.dK kvs) ∧ valV kvs (.inl 10) = some .non ∧ (∀ c : Nat, c ≠ 10 → c ≠ 37 → valV kvs (.inl (c : Int)) = none) ∧
  t.length ≤ 16000000 ∧ (∀ c, c ∈ t → c < 128 ∧ c ≠ 37) ∧ Q (.str (SX.S (no10 t))) H
theorem mt_trans {X : Cx} (hc : X.calm = true) : MtR X "str.translate" rTrans := by
  intro pins s σ H x xs v us Q I rx rs h
  obtain ⟨t, d, kvs, rfl, rfl, ed, k1, k2, h3, h4, h⟩ := h
  obtain ⟨tk, rfl⟩ := rx
  cases rs with
  | cons r1 rs =>
    cases rs
    cases r1
    obtain ⟨z, hd, vs, rel, dd⟩ := dk_of I.hok ed
    have f1 : valueAt vs (.inl 10) = some .none := by
      have q := rel.val (.inl 10)
      rw [k1] at q
      cases e : valueAt vs (.inl 10) with
      | none => rw [e] at q; exact q.elim
      | some u => rw [e] at q; exact congrArg some (show u = Value.none from q)
    have f2 : ∀ c : Nat, c ≠ 10 → c ≠ 37 → valueAt vs (.inl (c : Int)) = none := fun c h1 h2 => by
      have q := rel.val (.inl (c : Int))
      rw [k2 c h1 h2] at q
      cases e : valueAt vs (.inl (c : Int)) with
      | none => rfl
      | some u => rw [e] at q; exact q.elim
    refine call_meetsIn PySem.F.slot_str_translate (typeIs_str _ _ _) PySem.F.entry_str_translate (PySem.F.args_str_translate_2 _ _) (meets_drops t tk d hd h3 h4) ⟨I.ok.hd hc, ⟨_, dd.mapOf, f1, f2⟩, ?_⟩
    intro v h' k hk ⟨t', e⟩
    subst e
    exact ⟨.str _, H, I.kept (t' := k) hk, ⟨t', rfl⟩, h⟩
def rAscii : V → List V → Hp → VK → Prop := fun x xs H Q => ∃ a, x = .str a ∧ xs = [] ∧ True ∧ Q (.bl (Txt.isascii a)) H
theorem mt_ascii {X : Cx} : MtR X "str.isascii" rAscii := mt_isascii
def rPrintable : V → List V → Hp → VK → Prop := fun x xs H Q => ∃ a, x = .str a ∧ xs = [] ∧ True ∧ Q (.bl (Txt.isprintable a)) H
theorem mt_printable {X : Cx} : MtR X "str.isprintable" rPrintable := mt_isprintable
/-- signs that a cell may hold, but 37 -/
def okC (c : Nat) : Bool := c != 37 && (c == 10 || (decide (32 ≤ c) && decide (c < 127)))
def okT (z : Str) : Prop := ∀ c, c ∈ z.cps.toList → okC c = true
theorem okC_lt {c : Nat} (h : okC c = true) : c < 128 ∧ c ≠ 37 := by
  unfold okC at h
  simp only [Bool.and_eq_true, Bool.or_eq_true, bne_iff_ne, beq_iff_eq, decide_eq_true_eq] at h
  omega
theorem printable_all : ((List.range 127).all fun c => decide (c < 32) || Unicode.isPrintable c) = true := by decide +kernel
theorem print_c {c : Nat} (h : okC c = true) (h10 : c ≠ 10) : Unicode.isPrintable c = true := by
  have a := List.all_eq_true.mp printable_all c
  unfold okC at h
  simp only [Bool.and_eq_true, Bool.or_eq_true, bne_iff_ne, beq_iff_eq, decide_eq_true_eq] at h
  have z := a (List.mem_range.mpr (by omega))
  simp only [Bool.or_eq_true, decide_eq_true_eq] at z
  rcases z with z | z
  · omega
  · exact z
theorem no10_ascii {z : Str} (h : okT z) : Txt.isascii (SX.S (no10 z.cps.toList)) = true := by
  show ((no10 z.cps.toList).toArray.all _) = true
  rw [List.all_toArray, List.all_eq_true]
  intro c hc
  have := okC_lt (h c (List.mem_filter.mp hc).1)
  simpa using this.1
theorem no10_print {z : Str} (h : okT z) : Txt.isprintable (SX.S (no10 z.cps.toList)) = true := by
  show ((no10 z.cps.toList).toArray.all _) = true
  rw [List.all_toArray, List.all_eq_true]
  intro c hc
  obtain ⟨h1, h2⟩ := List.mem_filter.mp hc
  exact print_c (h c h1) (by simpa using h2)
theorem okT_add {a b : Str} (ha : okT a) (hb : okT b) : okT (a ++ b) := fun c hc => by
  have e : (a ++ b).cps.toList = a.cps.toList ++ b.cps.toList := TL.tl_append a b
  rw [e] at hc
  rcases List.mem_append.mp hc with h | h
  · exact ha c h
  · exact hb c h
end Bx
namespace Bx
open PySem L2
/-! ### zip of two rows, each a list or a tuple -/
section
variable {prog : Program} {w : World} {A : Around} {E : Value → Shared → Prop} {s : Shared}
def RowAt (t : Bool) (h : Heap) (l : Addr) (xs : Array Value) : Prop := match t with
  | true => h.IsTuple l xs
  | false => h.IsList l xs
def ItAt (t : Bool) (h : Heap) (i l : Addr) (k : Nat) : Prop := match t with
  | true => h.IsTupleIter i l k
  | false => h.IsListIter i l k
theorem RowAt.get {t : Bool} {h : Heap} {l : Addr} {xs : Array Value} (r : RowAt t h l xs) : ∃ o, h.get? l = some o ∧ ∀ h', h'.get? l = some o → RowAt t h' l xs := by
  cases t <;> (obtain ⟨o, e, c⟩ := r; exact ⟨o, e, fun _ e' => ⟨o, e', c⟩⟩)
theorem ItAt.get {t : Bool} {h : Heap} {i l : Addr} {k : Nat} (r : ItAt t h i l k) : ∃ o, h.get? i = some o ∧ (∀ v, o.data ≠ .cell v) ∧ ∀ h', h'.get? i = some o → ItAt t h' i l k := by
  cases t <;> (obtain ⟨o, e, c, d⟩ := r; exact ⟨o, e, fun v q => (by rw [d] at q; cases q), fun _ e' => ⟨o, e', c, d⟩⟩)
theorem RowAt.to {t : Bool} {h h' : Heap} {l : Addr} {xs : Array Value} (r : RowAt t h l xs) (k : ∀ o, h.get? l = some o → h'.get? l = some o) : RowAt t h' l xs :=
  let ⟨o, e, f⟩ := r.get
  f h' (k o e)
theorem ItAt.to {t : Bool} {h h' : Heap} {i l : Addr} {n : Nat} (r : ItAt t h i l n) (k : ∀ o, h.get? i = some o → h'.get? i = some o) : ItAt t h' i l n :=
  let ⟨o, e, _, f⟩ := r.get
  f h' (k o e)
theorem nx_item {t : Bool} {i l : Addr} {k : Nat} {xs : Array Value} {x : Value} {Q : Value → Shared → Prop} (r : ItAt t s.heap i l k) (b : RowAt t s.heap l xs) (e : xs[k]? = some x)
    (q : ∀ g, ItAt t g i l (k + 1) → Heap.SameBut i s.heap g → Q x { s with heap := g }) : wpAny (model prog w) A (Builtin.SmallTypes.nextOf (.ref i)) Q E s := by
  cases t
  · exact wpAny_nextOf_list_item r b e q
  · exact RZ.nextOf_tuple_item r b e q
theorem nx_end {t : Bool} {i l : Addr} {k : Nat} {xs : Array Value} {Q : Value → Shared → Prop} (hh : A.handled = none) (r : ItAt t s.heap i l k) (b : RowAt t s.heap l xs) (e : xs[k]? = none)
    (q : ∀ g c, Heap.ExtBut i s.heap g → (∃ o, g.get? c = some o ∧ o.cls = .type "StopIteration") → E (.ref c) { s with heap := g }) : wpAny (model prog w) A (Builtin.SmallTypes.nextOf (.ref i)) Q E s := by
  cases t
  · exact wpAny_nextOf_list_end hh r b e q
  · exact RZ.nextOf_tuple_end hh r b e q
/-- zip's next row, of rows of either kind -/
theorem zx_item {t u : Bool} {zp Ti To ia ib la lb : Addr} {m n : Nat} {xs ys : Array Value} {x y p0 p1 : Value} {Q : Value → Shared → Prop} (D : ZipApart zp Ti To ia ib la lb)
    (Z : IsZip s.heap zp Ti To .none) (P : IsPair s.heap Ti (.ref ia) (.ref ib)) (O : IsPair s.heap To p0 p1)
    (ra : ItAt t s.heap ia la m) (rb : ItAt u s.heap ib lb n) (qa : RowAt t s.heap la xs) (qb : RowAt u s.heap lb ys) (ex : xs[m]? = some x) (ey : ys[n]? = some y)
    (q : ∀ g, IsZip g zp Ti To (rawInt s.heap.objs.size) → IsPair g To x y → ItAt t g ia la (m + 1) → ItAt u g ib lb (n + 1) → IsPair g s.heap.objs.size x y →
      (∀ c o, c ≠ zp → c ≠ To → c ≠ ia → c ≠ ib → s.heap.get? c = some o → g.get? c = some o) → Q (.ref s.heap.objs.size) { s with heap := g }) :
    wpAny (model prog w) A (Builtin.«zip.__next__» ⟨[.ref zp], []⟩) (fun f s' => ∃ v, f = .done (.ret v) ∧ Q v s') E s := by
  show wpAny _ _ (field (.ref zp) 2 >>= _) _ _ _
  refine wpAny_bind (wpAny_field Z rfl (x := .bool false) rfl (show wpAny _ _ (field (.ref zp) 3 >>= _) _ _ _ from wpAny_bind (wpAny_field Z rfl (x := .ref Ti) rfl (wpAny_bind (wpAny_seqItems P rfl ?_)))))
  show wpAny _ _ (Builtin.SmallTypes.ownedTupleIsFree (.ref zp) >>= _) _ _ _
  unfold Builtin.SmallTypes.ownedTupleIsFree
  refine wpAny_bind (wpAny_bind (wpAny_field Z rfl (x := .none) rfl (wpAny_pure ?_)))
  rw [if_pos rfl]
  refine wpAny_bind (wpAny_rule (wpAny_bind (wpAny_field Z rfl (x := .ref To) rfl (wpAny_bind (wpAny_setField_rec Z (by simp) fun g1 Z1 s1 => ?_)))))
  replace Z1 : IsZip g1 zp Ti To .ellipsis := Z1
  simp only [List.zipIdx_cons, List.zipIdx_nil, List.forIn_cons, List.forIn_nil]
  refine wpAny_bind (wpAny_bind (wpAny_bind (wpAny_onRaise (show wpAny _ _ (Builtin.SmallTypes.nextOf (.ref ia) >>= _) _ _ _ from ?_))))
  refine wpAny_bind (nx_item (ra.to fun o => s1.extBut _ o D.i1z) (qa.to fun o => s1.extBut _ o D.l1z) ex fun g2 ra2 s2 => wpAny_pure ?_)
  have O2 : IsPair g2 To p0 p1 := s2.extBut _ _ D.TOi1 (s1.extBut _ _ D.TOz O)
  refine wpAny_bind (wpAny_seqItems O2 rfl (wpAny_bind (wpAny_updateSeq_pair O2 fun g3 O3 s3 => wpAny_bind (wpAny_letGo (wpAny_pure ?_)))))
  replace O3 : IsPair g3 To x p1 := O3
  refine wpAny_bind (wpAny_bind (wpAny_onRaise (show wpAny _ _ (Builtin.SmallTypes.nextOf (.ref ib) >>= _) _ _ _ from ?_)))
  have k3 : ∀ c o, c ≠ zp → c ≠ To → c ≠ ia → s.heap.get? c = some o → g3.get? c = some o := fun c o n1 n2 n3 e => s3.extBut _ _ n2 (s2.extBut _ _ n3 (s1.extBut _ _ n1 e))
  refine wpAny_bind (nx_item (rb.to fun o => k3 _ o D.i2z D.TOi2.symm D.i12.symm) (qb.to fun o => k3 _ o D.l2z D.l2TO D.l2i1) ey fun g4 rb4 s4 => wpAny_pure ?_)
  have O4 : IsPair g4 To x p1 := s4.extBut _ _ D.TOi2 O3
  refine wpAny_bind (wpAny_seqItems O4 rfl (wpAny_bind (wpAny_updateSeq_pair O4 fun g5 O5 s5 => wpAny_bind (wpAny_letGo (wpAny_pure (wpAny_pure ?_))))))
  replace O5 : IsPair g5 To x y := O5
  refine wpAny_bind (wpAny_seqItems O5 rfl (wpAny_bind (wpAny_newTuple ?_)))
  have sz : g5.objs.size = s.heap.objs.size := by rw [s5.1, s4.1, s3.1, s2.1, s1.1]
  have k5 : ∀ c o, c ≠ zp → c ≠ To → c ≠ ia → c ≠ ib → s.heap.get? c = some o → g5.get? c = some o := fun c o n1 n2 n3 n4 e => s5.extBut _ _ n2 (s4.extBut _ _ n4 (k3 c o n1 n2 n3 e))
  have Z5 : IsZip g5 zp Ti To .ellipsis := s5.extBut _ _ D.TOz.symm (s4.extBut _ _ D.i2z.symm (s3.extBut _ _ D.TOz.symm (s2.extBut _ _ D.i1z.symm Z1)))
  have ra5 : ItAt t g5 ia la (m + 1) := ra2.to fun o e => s5.extBut _ _ D.TOi1.symm (s4.extBut _ _ D.i12 (s3.extBut _ _ D.TOi1.symm e))
  have rb5 : ItAt u g5 ib lb (n + 1) := rb4.to fun o => s5.extBut _ o D.TOi2.symm
  have zl : zp < g5.objs.size := Heap.lt_size Z5
  show wpAny _ _ (Builtin.SmallTypes.ownedTupleHandOut (.ref zp) (.ref g5.objs.size) >>= _) _ _ _
  unfold Builtin.SmallTypes.ownedTupleHandOut
  have Z6 : IsZip (g5.push { cls := .type "tuple", data := .seq #[x, y] }) zp Ti To .ellipsis := Heap.get?_push_of_some _ Z5
  refine wpAny_bind (wpAny_bind (wpAny_setField_rec Z6 (by simp) fun g7 Z7 s7 => ?_))
  replace Z7 : IsZip g7 zp Ti To (rawInt g5.objs.size) := Z7
  refine wpAny_setField_rec Z7 (by simp) fun g8 Z8 s8 => wpAny_pure ⟨_, rfl, ?_⟩
  replace Z8 : IsZip g8 zp Ti To (rawInt g5.objs.size) := Z8
  have k8 : ∀ c o, c ≠ zp → g5.get? c = some o → g8.get? c = some o := fun c o n1 e => s8.extBut _ _ n1 (s7.extBut _ _ n1 (Heap.get?_push_of_some _ e))
  have T8 : IsPair g8 g5.objs.size x y := s8.extBut _ _ (Nat.ne_of_gt zl) (s7.extBut _ _ (Nat.ne_of_gt zl) (Heap.get?_push_size _ rfl))
  show Q (.ref g5.objs.size) _
  rw [sz] at Z8 T8 ⊢
  exact q g8 Z8 (k8 _ _ D.TOz O5) (ra5.to fun o => k8 _ o D.i1z) (rb5.to fun o => k8 _ o D.i2z) T8 fun c o n1 n2 n3 n4 e => k8 c o n1 (k5 c o n1 n2 n3 n4 e)
/-- the end of a zip -/
theorem zx_end {t u : Bool} {zp Ti To ia ib la lb : Addr} {m n : Nat} {xs ys : Array Value} {p0 p1 : Value} {Q : Fin → Shared → Prop} (hh : A.handled = none) (D : ZipApart zp Ti To ia ib la lb)
    (Z : IsZip s.heap zp Ti To .none) (P : IsPair s.heap Ti (.ref ia) (.ref ib)) (O : IsPair s.heap To p0 p1)
    (ra : ItAt t s.heap ia la m) (rb : ItAt u s.heap ib lb n) (qa : RowAt t s.heap la xs) (qb : RowAt u s.heap lb ys) (en : xs[m]? = none ∨ ys[n]? = none)
    (q : ∀ g e, (∀ c o, c ≠ zp → c ≠ To → c ≠ ia → c ≠ ib → s.heap.get? c = some o → g.get? c = some o) → (∃ o, g.get? e = some o ∧ o.cls = .type "StopIteration") → E (.ref e) { s with heap := g }) :
    wpAny (model prog w) A (Builtin.«zip.__next__» ⟨[.ref zp], []⟩) Q E s := by
  show wpAny _ _ (field (.ref zp) 2 >>= _) _ _ _
  refine wpAny_bind (wpAny_field Z rfl (x := .bool false) rfl (show wpAny _ _ (field (.ref zp) 3 >>= _) _ _ _ from wpAny_bind (wpAny_field Z rfl (x := .ref Ti) rfl (wpAny_bind (wpAny_seqItems P rfl ?_)))))
  show wpAny _ _ (Builtin.SmallTypes.ownedTupleIsFree (.ref zp) >>= _) _ _ _
  unfold Builtin.SmallTypes.ownedTupleIsFree
  refine wpAny_bind (wpAny_bind (wpAny_field Z rfl (x := .none) rfl (wpAny_pure ?_)))
  rw [if_pos rfl]
  refine wpAny_bind (wpAny_rule (wpAny_bind (wpAny_field Z rfl (x := .ref To) rfl (wpAny_bind (wpAny_setField_rec Z (by simp) fun g1 Z1 s1 => ?_)))))
  replace Z1 : IsZip g1 zp Ti To .ellipsis := Z1
  have stop : ∀ (g : Heap) (e : Addr), IsZip g zp Ti To .ellipsis → (∀ c o, c ≠ zp → c ≠ To → c ≠ ia → c ≠ ib → s.heap.get? c = some o → g.get? c = some o) → (∃ o, g.get? e = some o ∧ o.cls = .type "StopIteration") →
      wpAny (model prog w) A (setField (.ref zp) 0 .none) (fun _ s' => E (.ref e) s') E { s with heap := g } := fun g e Zg k ⟨o, eo, co⟩ => by
    have ne : e ≠ zp := fun z => by rw [z, Zg] at eo; cases eo; simp at co
    exact wpAny_setField_rec Zg (by simp) fun g' _ s' => q g' e (fun c o n1 n2 n3 n4 h => s'.extBut _ _ n1 (k c o n1 n2 n3 n4 h)) ⟨o, s'.extBut _ _ ne eo, co⟩
  simp only [List.zipIdx_cons, List.zipIdx_nil, List.forIn_cons, List.forIn_nil]
  refine wpAny_bind (wpAny_bind (wpAny_bind (wpAny_onRaise (show wpAny _ _ (Builtin.SmallTypes.nextOf (.ref ia) >>= _) _ _ _ from ?_))))
  cases ex : xs[m]? with
  | none => exact wpAny_bind (nx_end hh (ra.to fun o => s1.extBut _ o D.i1z) (qa.to fun o => s1.extBut _ o D.l1z) ex fun g2 e s2 st => stop g2 e (s2 _ _ D.i1z.symm Z1) (fun c o n1 _ n3 _ h => s2 _ _ n3 (s1.extBut _ _ n1 h)) st)
  | some x =>
    have ey : ys[n]? = none := en.elim (fun h => by rw [ex] at h; cases h) id
    refine wpAny_bind (nx_item (ra.to fun o => s1.extBut _ o D.i1z) (qa.to fun o => s1.extBut _ o D.l1z) ex fun g2 ra2 s2 => wpAny_pure ?_)
    have O2 : IsPair g2 To p0 p1 := s2.extBut _ _ D.TOi1 (s1.extBut _ _ D.TOz O)
    refine wpAny_bind (wpAny_seqItems O2 rfl (wpAny_bind (wpAny_updateSeq_pair O2 fun g3 O3 s3 => wpAny_bind (wpAny_letGo (wpAny_pure ?_)))))
    have k3 : ∀ c o, c ≠ zp → c ≠ To → c ≠ ia → s.heap.get? c = some o → g3.get? c = some o := fun c o n1 n2 n3 e => s3.extBut _ _ n2 (s2.extBut _ _ n3 (s1.extBut _ _ n1 e))
    refine wpAny_bind (wpAny_bind (wpAny_onRaise (show wpAny _ _ (Builtin.SmallTypes.nextOf (.ref ib) >>= _) _ _ _ from ?_)))
    exact wpAny_bind (nx_end hh (rb.to fun o => k3 _ o D.i2z D.TOi2.symm D.i12.symm) (qb.to fun o => k3 _ o D.l2z D.l2TO D.l2i1) ey fun g4 e s4 st => stop g4 e (s4 _ _ D.i2z.symm (s3.extBut _ _ D.TOz.symm (s2.extBut _ _ D.i1z.symm Z1))) (fun c o n1 n2 n3 n4 h => s4 _ _ n4 (k3 c o n1 n2 n3 h)) st)
theorem zx_next {t u : Bool} {zp Ti To ia ib la lb : Addr} {m n : Nat} {xs ys : Array Value} {x y p0 p1 : Value} {Q : Option Value → Shared → Prop} (D : ZipApart zp Ti To ia ib la lb)
    (Z : IsZip s.heap zp Ti To .none) (P : IsPair s.heap Ti (.ref ia) (.ref ib)) (O : IsPair s.heap To p0 p1)
    (ra : ItAt t s.heap ia la m) (rb : ItAt u s.heap ib lb n) (qa : RowAt t s.heap la xs) (qb : RowAt u s.heap lb ys) (ex : xs[m]? = some x) (ey : ys[n]? = some y)
    (q : ∀ g, IsZip g zp Ti To (rawInt s.heap.objs.size) → IsPair g To x y → ItAt t g ia la (m + 1) → ItAt u g ib lb (n + 1) → IsPair g s.heap.objs.size x y →
      (∀ c o, c ≠ zp → c ≠ To → c ≠ ia → c ≠ ib → s.heap.get? c = some o → g.get? c = some o) → Q (some (.ref s.heap.objs.size)) { s with heap := g }) : wpAny (model prog w) A (pyNext (.ref zp)) Q E s := by
  have T : s.TypeIs (.ref zp) "zip" := ⟨_, Z, rfl⟩
  unfold pyNext
  refine wpAny_bind (wpAny_attempt (wpAny_callSpecial?_slot (name := Str.ofString "__next__") T F.slot_zip_next (wpAny_call_entry F.slot_zip_next T F.entry_zip_next ?_ (F.args_zip_next_1 _))))
  exact zx_item D Z P O ra rb qa qb ex ey fun g a b c d e f => wpAny_pure (q g a b c d e f)
theorem zx_stop {t u : Bool} {zp Ti To ia ib la lb : Addr} {m n : Nat} {xs ys : Array Value} {p0 p1 : Value} {Q : Option Value → Shared → Prop} (hh : A.handled = none) (D : ZipApart zp Ti To ia ib la lb)
    (Z : IsZip s.heap zp Ti To .none) (P : IsPair s.heap Ti (.ref ia) (.ref ib)) (O : IsPair s.heap To p0 p1)
    (ra : ItAt t s.heap ia la m) (rb : ItAt u s.heap ib lb n) (qa : RowAt t s.heap la xs) (qb : RowAt u s.heap lb ys) (en : xs[m]? = none ∨ ys[n]? = none)
    (q : ∀ g, (∀ c o, c ≠ zp → c ≠ To → c ≠ ia → c ≠ ib → s.heap.get? c = some o → g.get? c = some o) → Q none { s with heap := g }) : wpAny (model prog w) A (pyNext (.ref zp)) Q E s := by
  have T : s.TypeIs (.ref zp) "zip" := ⟨_, Z, rfl⟩
  unfold pyNext
  refine wpAny_bind (wpAny_attempt (wpAny_callSpecial?_slot (name := Str.ofString "__next__") T F.slot_zip_next (wpAny_call_entry F.slot_zip_next T F.entry_zip_next ?_ (F.args_zip_next_1 _))))
  refine zx_end hh D Z P O ra rb qa qb en fun g e k ⟨o, eo, co⟩ => ?_
  exact wpAny_bind (wpAny_isInstance (T := "StopIteration") (b := true) ⟨o, eo, co⟩ isSubtype_stop (wpAny_pure (q _ k)))
/-! making one -/
abbrev zg1 (c : String) (h : Heap) (l : Addr) : Heap := h.push { cls := .type c, data := .fields #[.ref l, .int 0 0] }
abbrev zg3 (c d : String) (h : Heap) (l k : Addr) : Heap := (zg1 d (zg1 c h l) k).push { cls := .type "tuple", data := .seq #[.ref h.objs.size, .ref (zg1 c h l).objs.size] }
abbrev zg4 (c d : String) (h : Heap) (l k : Addr) : Heap := (zg3 c d h l k).push { cls := .type "tuple", data := .seq #[.none, .none] }
abbrev zg5 (c d : String) (h : Heap) (l k : Addr) : Heap :=
  (zg4 c d h l k).push { cls := .type "zip", data := .fields #[.none, .bool false, .bool false, .ref (zg1 d (zg1 c h l) k).objs.size, .ref (zg3 c d h l k).objs.size] }
def itc : Bool → String
  | true => "tuple_iterator"
  | false => "list_iterator"
def ZNew (t u : Bool) (l k : Addr) (xs ys : Array Value) : Prop := Meets (Builtin.«zip.__new__» ⟨[.type "zip", .ref l, .ref k], []⟩)
    (fun _ R s => RowAt t s.heap l xs ∧ RowAt u s.heap k ys ∧ R (.ok (.ret (.ref (zg4 (itc t) (itc u) s.heap l k).objs.size))) { s with heap := zg5 (itc t) (itc u) s.heap l k })
theorem zn_ff (l k : Addr) (xs ys : Array Value) : Meets (Builtin.«zip.__new__» ⟨[.type "zip", .ref l, .ref k], []⟩)
    (fun _ R s => s.heap.IsList l xs ∧ s.heap.IsList k ys ∧ R (.ok (.ret (.ref (zg4 "list_iterator" "list_iterator" s.heap l k).objs.size))) { s with heap := zg5 "list_iterator" "list_iterator" s.heap l k }) := meets_zip_new l k xs ys
theorem zn_ft (l k : Addr) (xs ys : Array Value) : Meets (Builtin.«zip.__new__» ⟨[.type "zip", .ref l, .ref k], []⟩)
    (fun _ R s => s.heap.IsList l xs ∧ s.heap.IsTuple k ys ∧ R (.ok (.ret (.ref (zg4 "list_iterator" "tuple_iterator" s.heap l k).objs.size))) { s with heap := zg5 "list_iterator" "tuple_iterator" s.heap l k }) :=
  .of_wp fun prog w A R s h => by
    obtain ⟨hp, a1, a2, a3, a4⟩ := s
    obtain ⟨ra, rb, h⟩ := h
    have sub := sub_zip
    have L1 : Heap.IsList (Shared.heap ⟨hp, a1, a2, a3, a4⟩) l xs := ra
    have L2 : Heap.IsTuple (Shared.heap ⟨hp.push { cls := .type "list_iterator", data := .fields #[.ref l, .int 0 0] }, a1, a2, a3, a4⟩) k ys := Heap.IsTuple.push rb _
    wp_walk using wpAny_pyIter_list L1, wpAny_pyIter_tuple L2
    exact ⟨_, rfl, h⟩
theorem zn_tf (l k : Addr) (xs ys : Array Value) : Meets (Builtin.«zip.__new__» ⟨[.type "zip", .ref l, .ref k], []⟩)
    (fun _ R s => s.heap.IsTuple l xs ∧ s.heap.IsList k ys ∧ R (.ok (.ret (.ref (zg4 "tuple_iterator" "list_iterator" s.heap l k).objs.size))) { s with heap := zg5 "tuple_iterator" "list_iterator" s.heap l k }) :=
  .of_wp fun prog w A R s h => by
    obtain ⟨hp, a1, a2, a3, a4⟩ := s
    obtain ⟨ra, rb, h⟩ := h
    have sub := sub_zip
    have L1 : Heap.IsTuple (Shared.heap ⟨hp, a1, a2, a3, a4⟩) l xs := ra
    have L2 : Heap.IsList (Shared.heap ⟨hp.push { cls := .type "tuple_iterator", data := .fields #[.ref l, .int 0 0] }, a1, a2, a3, a4⟩) k ys := Heap.IsList.push rb _
    wp_walk using wpAny_pyIter_tuple L1, wpAny_pyIter_list L2
    exact ⟨_, rfl, h⟩
theorem zn_tt (l k : Addr) (xs ys : Array Value) : Meets (Builtin.«zip.__new__» ⟨[.type "zip", .ref l, .ref k], []⟩)
    (fun _ R s => s.heap.IsTuple l xs ∧ s.heap.IsTuple k ys ∧ R (.ok (.ret (.ref (zg4 "tuple_iterator" "tuple_iterator" s.heap l k).objs.size))) { s with heap := zg5 "tuple_iterator" "tuple_iterator" s.heap l k }) := RZ.meets_zipT_new l k xs ys
theorem zx_new (t u : Bool) (l k : Addr) (xs ys : Array Value) : ZNew t u l k xs ys := by
  cases t <;> cases u
  · exact zn_ff l k xs ys
  · exact zn_ft l k xs ys
  · exact zn_tf l k xs ys
  · exact zn_tt l k xs ys
theorem itAt_new {t : Bool} {h : Heap} {a l : Addr} (e : h.get? a = some { cls := .type (itc t), data := .fields #[.ref l, .int 0 0] }) : ItAt t h a l 0 := by
  cases t <;> exact ⟨_, e, rfl, rfl⟩
theorem zx_call {t u : Bool} {l k : Addr} {xs ys : Array Value} {Q : Value → Shared → Prop} (ra : RowAt t s.heap l xs) (rb : RowAt u s.heap k ys)
    (q : ∀ g, IsZip g (s.heap.objs.size + 4) (s.heap.objs.size + 2) (s.heap.objs.size + 3) .none → IsPair g (s.heap.objs.size + 2) (.ref s.heap.objs.size) (.ref (s.heap.objs.size + 1)) →
      IsPair g (s.heap.objs.size + 3) .none .none → ItAt t g s.heap.objs.size l 0 → ItAt u g (s.heap.objs.size + 1) k 0 →
      (∀ c o, s.heap.get? c = some o → g.get? c = some o) → Q (.ref (s.heap.objs.size + 4)) { s with heap := g }) : wpAny (model prog w) A (call (.type "zip") [.ref l, .ref k]) Q E s := by
  refine callType_new F.called_zip (by decide) (F.typeCall_zip_2 _ _) (F.newCall_zip_2 _ _) (fun obj => F.args_object_init_3 obj _ _) F.entry_zip_new (zx_new t u l k xs ys) ⟨ra, rb, ?_⟩
  have n1 : (zg1 (itc t) s.heap l).objs.size = s.heap.objs.size + 1 := Heap.size_push ..
  have n2 : (zg1 (itc u) (zg1 (itc t) s.heap l) k).objs.size = s.heap.objs.size + 2 := (Heap.size_push ..).trans (by rw [n1])
  have n3 : (zg3 (itc t) (itc u) s.heap l k).objs.size = s.heap.objs.size + 3 := (Heap.size_push ..).trans (by rw [n2])
  have n4 : (zg4 (itc t) (itc u) s.heap l k).objs.size = s.heap.objs.size + 4 := (Heap.size_push ..).trans (by rw [n3])
  have up : ∀ {h : Heap} {c : Addr} {o o' : Obj}, h.get? c = some o → (h.push o').get? c = some o := fun e => Heap.get?_push_of_some _ e
  have e5 : IsZip (zg5 (itc t) (itc u) s.heap l k) (zg4 (itc t) (itc u) s.heap l k).objs.size (zg1 (itc u) (zg1 (itc t) s.heap l) k).objs.size (zg3 (itc t) (itc u) s.heap l k).objs.size .none := Heap.get?_push_size _ rfl
  have e4 : (zg5 (itc t) (itc u) s.heap l k).get? (zg3 (itc t) (itc u) s.heap l k).objs.size = some _ := up (Heap.get?_push_size _ rfl)
  have e3 : (zg5 (itc t) (itc u) s.heap l k).get? (zg1 (itc u) (zg1 (itc t) s.heap l) k).objs.size = some _ := up (up (Heap.get?_push_size _ rfl))
  have e2 : (zg5 (itc t) (itc u) s.heap l k).get? (zg1 (itc t) s.heap l).objs.size = some _ := up (up (up (Heap.get?_push_size _ rfl)))
  have e1 : (zg5 (itc t) (itc u) s.heap l k).get? s.heap.objs.size = some _ := up (up (up (up (Heap.get?_push_size _ rfl))))
  show _ ∧ _
  rw [n2, n3, n4] at e5
  rw [n3] at e4
  rw [n1, n2] at e3
  rw [n1] at e2
  rw [n4]
  exact ⟨⟨_, e5, rfl⟩, q _ e5 e3 e4 (itAt_new e1) (itAt_new e2) fun c o e => up (up (up (up (up e))))⟩
end
/-! as something walked -/
def SqB (K : PySem.W.Frag) (t : Bool) (H : Hp) (a : Addr) (xs : List V) : Prop := match t with
  | true => SqT K H a xs
  | false => SqL K H a xs
theorem SqB.to {X : Cx} {pins : List (Addr × Obj)} {σ : L2.St} {H : Hp} {s : Shared} {t : Bool} {a : Addr} {xs : List V} (q : SqB X.K t H a xs) (I : Inv X pins σ H s) : ∃ its : List Value, Vals xs its ∧ RowAt t s.heap a its.toArray := by
  cases t
  · obtain ⟨its, r, p, _⟩ := I.list q
    exact ⟨its, r, p.isList⟩
  · obtain ⟨its, r, p, _⟩ := I.tuple q
    exact ⟨its, r, p⟩
theorem SqB.inj {X : Cx} {pins : List (Addr × Obj)} {σ : L2.St} {H : Hp} {s : Shared} {t : Bool} {a : Addr} {xs ys : List V} (q : SqB X.K t H a xs) (q' : SqB X.K t H a ys) (I : Inv X pins σ H s) : xs = ys := by
  cases t
  · exact I.list_inj q q'
  · exact I.tuple_inj q q'
def Itz2 (K : PySem.W.Frag) (t u : Bool) (a b : Addr) : It where
  go := fun i H => ∃ (xs ys : List V) (x y : V), SqB K t H a xs ∧ SqB K u H b ys ∧ xs[i]? = some x ∧ ys[i]? = some y
  yld := fun i H v H' => ∃ T x y, v = .ref T ∧ H T = none ∧ H' = upd H T (.tup [x, y]) ∧ (∀ xs, SqB K t H a xs → xs[i]? = some x) ∧ ∀ ys, SqB K u H b ys → ys[i]? = some y
  stop := fun i H => ∃ xs ys : List V, SqB K t H a xs ∧ SqB K u H b ys ∧ (xs.length ≤ i ∨ ys.length ≤ i)
def zTn (t u : Bool) (a b zp Ti To ia ib : Addr) (i : Nat) (h : Heap) : Prop := IsZip h zp Ti To .none ∧ IsPair h Ti (.ref ia) (.ref ib) ∧ (∃ x y, IsPair h To x y) ∧ ItAt t h ia a i ∧ ItAt u h ib b i
theorem mem5 {c zp Ti To ia ib : Addr} (h : c ∈ [zp, Ti, To, ia, ib]) : c = zp ∨ c = Ti ∨ c = To ∨ c = ia ∨ c = ib := by simpa using h
theorem turn_zx {P : Program} {w : World} {K : PySem.W.Frag} {elts : List Expr} {kk : Nat} {tpos : Pos} {t u : Bool} {a b zp Ti To ia ib : Addr} (D : ZipApart zp Ti To ia ib a b) :
    Turn P w K (.Tuple elts kk tpos) (Itz2 K t u a b) [zp, Ti, To, ia, ib] zp (zTn t u a b zp Ti To ia ib) where
  mem := by simp
  obj := fun i h ⟨Z, P, ⟨x, y, O⟩, ra, rb⟩ c hc => by
    obtain ⟨oa, ea, da, _⟩ := ra.get
    obtain ⟨ob, eb, db, _⟩ := rb.get
    rcases mem5 hc with q | q | q | q | q <;> rw [q]
    · exact ⟨_, Z, fun _ z => nomatch z⟩
    · exact ⟨_, P, fun _ z => nomatch z⟩
    · exact ⟨_, O, fun _ z => nomatch z⟩
    · exact ⟨oa, ea, da⟩
    · exact ⟨ob, eb, db⟩
  keep := fun i h h' ⟨Z, P, ⟨x, y, O⟩, ra, rb⟩ k => ⟨k zp (by simp) _ Z, k Ti (by simp) _ P, ⟨x, y, k To (by simp) _ O⟩, ra.to fun o e => k ia (by simp) o e, rb.to fun o e => k ib (by simp) o e⟩
  item := by
    intro X hP hw hK hc i pins s σ H E I hf ⟨Z, P, ⟨x0, y0, O⟩, ra, rb⟩ ⟨xs, ys, x, y, qa, qb, ex, ey⟩
    subst hP hw hK
    obtain ⟨its, rv, pa⟩ := qa.to I
    obtain ⟨its', rv', pb⟩ := qb.to I
    obtain ⟨v, ev, rx⟩ := rv.get ex
    obtain ⟨v', ev', ry⟩ := rv'.get ey
    have zl := Heap.lt_size Z
    refine zx_next D Z P O ra rb pa pb (x := v) (y := v') (by simpa using ev) (by simpa using ev') fun g Z' O' ra' rb' T' k => ?_
    refine ⟨_, rfl, wpAny_letOwnedTupleGo_zip (s := { s with heap := g }) Z' fun g' Z'' sb => ?_⟩
    have T2 : g'.get? s.heap.objs.size = some { cls := .type "tuple", data := .seq #[v, v'] } := (sb.2 _ (Nat.ne_of_gt zl)).trans T'
    have new : ObjOk X.prog X.w (upd H s.heap.objs.size (.tup [x, y])) g' s.heap.objs.size (.tup [x, y]) := ⟨(by decide : 2 ≤ sizeLine), [v, v'], .cons rx (.cons ry .nil), ⟨_, T2, rfl, _, rfl⟩⟩
    have kk : ∀ c o, c ∉ [zp, Ti, To, ia, ib] → s.heap.get? c = some o → g'.get? c = some o := fun c o nc e => by
      have n : ∀ d ∈ [zp, Ti, To, ia, ib], c ≠ d := fun d hd z => nc (z ▸ hd)
      exact (sb.2 c (n zp (by simp))).trans (k c o (n zp (by simp)) (n To (by simp)) (n ia (by simp)) (n ib (by simp)) e)
    have I1 : Inv X pins σ (upd H s.heap.objs.size (.tup [x, y])) { s with heap := g' } := I.turnedNew (t' := s.toks) (ch := [zp, Ti, To, ia, ib]) kk hf (Nat.le_refl _) new
    refine ⟨.ref s.heap.objs.size, _, I1, rfl, ⟨_, x, y, rfl, I.hok.fresh (Nat.le_refl _), rfl, fun l hl => ?_, fun l hl => ?_⟩, ⟨Z'', ?_, ⟨v, v', ?_⟩, ?_, ?_⟩, fun c hcm => ?_⟩
    · rw [hl.inj qa I]; exact ex
    · rw [hl.inj qb I]; exact ey
    · exact (sb.2 _ D.TIz).trans (k _ _ D.TIz D.TITO D.TIi1 D.TIi2 P)
    · exact (sb.2 _ D.TOz).trans O'
    · exact ra'.to fun o e => (sb.2 _ D.i1z).trans e
    · exact rb'.to fun o e => (sb.2 _ D.i2z).trans e
    · have hlt : c < s.heap.objs.size := by
        obtain ⟨oa, ea, _⟩ := ra.get
        obtain ⟨ob, eb, _⟩ := rb.get
        rcases mem5 hcm with q | q | q | q | q <;> rw [q]
        · exact zl
        · exact Heap.lt_size P
        · exact Heap.lt_size O
        · exact Heap.lt_size ea
        · exact Heap.lt_size eb
      rw [upd_ne (Nat.ne_of_lt hlt)]
      exact (hf c hcm).1
  done := by
    intro X hP hw hK hc i pins s σ H E I hf ⟨Z, P, ⟨x0, y0, O⟩, ra, rb⟩ ⟨xs, ys, qa, qb, en⟩
    subst hP hw hK
    obtain ⟨its, rv, pa⟩ := qa.to I
    obtain ⟨its', rv', pb⟩ := qb.to I
    have l1 := rv.length
    have l2 := rv'.length
    refine zx_stop (I.ok.hd hc) D Z P O ra rb pa pb (en.imp (fun q => by simp; omega) fun q => by simp; omega) fun g k => ⟨rfl, I.turnedL (t' := s.toks) (ch := [zp, Ti, To, ia, ib]) (fun c o nc e => ?_) hf⟩
    have n : ∀ d ∈ [zp, Ti, To, ia, ib], c ≠ d := fun d hd z => nc (z ▸ hd)
    exact k c o (n zp (by simp)) (n To (by simp)) (n ia (by simp)) (n ib (by simp)) e
  self := fun A i s Q E st h => wpAny_pyIter_zip st.1 h
/-- zip(a, b) walked -/
def iZx (K : PySem.W.Frag) (ta : TA) : TI := fun σ H R => ta σ H fun vs H1 => ∃ a b xs ys t u, vs = [.ref a, .ref b] ∧ SqB K t H1 a xs ∧ SqB K u H1 b ys ∧ R (Itz2 K t u a b) H1
theorem pi_zx {X : Cx} {e e2 : Expr} {ta : TA} {p pos tpos : Pos} {elts : List Expr} {kk : Nat} (hg : Gl X "zip") (hm : X.mg "zip" = none) (ha : PA X [e, e2] ta)
    (hs : starEach [e, e2] X.env = (false, eval e X.env) :: starEach [e2] X.env := by rfl) (hpl : (backTo pos (starEach [e2] X.env)).any (·.1) = false := by rfl) :
    PI X (.Tuple elts kk tpos) (.Call (.Name "zip" p) [e, e2] [] pos) (iZx X.K ta) := by
  refine ⟨fun pins s σ H R I h => PyProof.Rows.Call_ (ld_blt I hg hm PyProof.Rows.boot_zip (PyProof.Rows.callWith_type1 (thn (ha.run pos pins s σ H _ I h) fun us s1 ⟨vs, H1, I1, r1, q1⟩ => ?_) hs hpl))⟩
  obtain ⟨a, b, xs, ys, t, u, rfl, qa, qb, q⟩ := q1
  cases r1 with
  | cons r rr =>
    cases rr with
    | cons r' rr =>
      cases rr
      cases r
      cases r'
      obtain ⟨its, rv, pa⟩ := qa.to I1
      obtain ⟨its', rv', pb⟩ := qb.to I1
      obtain ⟨oa, ea, _⟩ := pa.get
      obtain ⟨ob, eb, _⟩ := pb.get
      refine zx_call pa pb fun g Z P O ra rb k => wpAny_pyIter_zip Z ?_
      refine ⟨_, _, _, _, H1, rfl, I1.kept (t' := s1.toks) k, turn_zx (PySem.W.ktu_apart s1.heap.objs.size a b (Heap.lt_size ea) (Heap.lt_size eb)), ⟨Z, P, ⟨_, _, O⟩, ra, rb⟩, fun c hcm => ?_, q⟩
      have le : s1.heap.objs.size ≤ c := by
        rcases mem5 hcm with z | z | z | z | z <;> rw [z] <;> omega
      exact I1.fpOk le (I1.hok.fresh le)
end Bx
namespace Bx
open PySem L2
section
variable {H : Hp} {Q : VK} {K : PySem.W.Frag} {v u : V} {ex : List Addr} {d d1 d2 : Da} {ds es fs : List Da} {σ : L2.St} {vs : List Nat} {g : TG} {tt : TT} {tx : TE} {m : Nat}
/-- a comprehension that makes a row of data, over anything walked; Iv, what else is known -/
theorem raw_map {J : It} {eo : List Addr} (Iv : Hp → Prop) (sub : ∀ a, a ∈ ex → a ∈ eo) (hf : fs.length = m) (hm : m < 100000) (I0 : Iv H) (hL : ∀ H', Iv H' → Live eo H') (hI : ∀ H' D o, H D = none → Iv H' → Iv (upd H' D o))
    (hstop : ∀ H', Kp ex H H' → J.stop m H') (hgo : ∀ i H', i < m → Kp ex H H' → J.go i H')
    (hs : ∀ D (i : Nat) x f H1 H' (N : V → Hp → Prop) (Nx : Hp → Prop), H D = none → i < m → fs[i]? = some f → Kp ex H H1 → Live (D :: eo) H1 → Iv H1 → J.yld i H1 x H' → (∀ y H4, Kp ex H1 H4 → Iv H4 → Rp (D :: eo) H4 y f → N y H4) →
      g x (wipe σ vs) H' fun σ2 H2 => wipe σ2 vs = wipe σ vs ∧ tt σ2 H2 fun b H3 => if b = true then tx σ2 H3 N else Nx H3)
    (hd : ∀ v' H', Kp ex H H' → Iv H' → Rp eo H' v' (.lst fs) → Q v' H') : rawC J g tt tx vs σ H Q := by
  intro D hD
  have nD : D ∉ eo := (hL H I0).new hD
  have nE : D ∉ ex := fun z => nD (sub _ z)
  refine ⟨fun i k H' => k = m - i ∧ i ≤ m ∧ Kp ex H H' ∧ Iv H' ∧ ∃ ys, H' D = some (.lst ys) ∧ Rps (D :: eo) H' ys (fs.take i), ⟨m, rfl, Nat.zero_le _, Kp.refl.new hD, hI _ _ _ hD I0, [], upd_same, by rw [List.take_zero]; exact Rps.nil⟩, ?_⟩
  rintro i k H' ⟨rfl, hi, kp, iv, ys, ey, ry⟩
  by_cases c : i < m
  · refine .inr ⟨hgo i H' c kp, fun H4 => i + 1 ≤ m ∧ Kp ex H H4 ∧ Iv H4 ∧ ∃ ys, H4 D = some (.lst ys) ∧ Rps (D :: eo) H4 ys (fs.take (i + 1)), fun H4 q => ⟨m - (i + 1), by omega, rfl, q⟩, fun x H1 y => ?_⟩
    have gi : fs[i]? = some (fs[i]'(by omega)) := List.getElem?_eq_getElem _
    refine hs D i x _ H' H1 _ _ hD c gi kp ((hL _ iv).cons ey) iv y fun z H4 k4 iv4 r4 => ⟨ys, k4 _ _ nE ey, szl ?_, c, (kp.trans k4).own hD, hI _ _ _ hD iv4, ys ++ [z], upd_same, ?_⟩
    · rw [ry.1, List.length_take]; omega
    · have e : fs.take (i + 1) = fs.take i ++ [fs[i]'(by omega)] := by rw [List.take_succ, gi]; rfl
      rw [e]
      exact rps_snoc (rps_kp ry (((k4.mono sub).more).mut (List.mem_cons_self ..))) (r4.kp (Kp.refl.mut (List.mem_cons_self ..)))
  · have e : i = m := by omega
    subst e
    rw [List.take_of_length_le (by omega)] at ry
    exact .inl ⟨hstop H' kp, hd (.ref D) H' kp iv (rps_lst (rps_tail ry) nD ey)⟩
/-- over a row -/
theorem x_mapS (Iv : Hp → Prop) (h : Rp ex H v d) (s : d.seq ds) (hf : fs.length = ds.length) (hm : ds.length < 100000) (I0 : Iv H) (hL : ∀ H', Iv H' → Live ex H') (hI : ∀ H' D o, H D = none → Iv H' → Iv (upd H' D o))
    (hs : ∀ D (i : Nat) x e f H1 (N : V → Hp → Prop) (Nx : Hp → Prop), H D = none → ds[i]? = some e → fs[i]? = some f → Kp ex H H1 → Live (D :: ex) H1 → Iv H1 → Rp (D :: ex) H1 x e → (∀ y H4, Kp ex H1 H4 → Iv H4 → Rp (D :: ex) H4 y f → N y H4) →
      g x (wipe σ vs) H1 fun σ2 H2 => wipe σ2 vs = wipe σ vs ∧ tt σ2 H2 fun b H3 => if b = true then tx σ2 H3 N else Nx H3)
    (hd : ∀ v' H', Kp ex H H' → Iv H' → Rp ex H' v' (.lst fs) → Q v' H') :
    ∃ a', v = .ref a' ∧ (((∃ xs, SqL K H a' xs) ∧ rawC (Itl K a') g tt tx vs σ H Q) ∨ ((∃ xs, SqT K H a' xs) ∧ rawC (Itt K a') g tt tx vs σ H Q)) := by
  obtain ⟨a, xs, rfl, n, e, r⟩ := h.seqI s
  rcases e with e | e
  · refine ⟨a, rfl, .inr ⟨⟨xs, SqT.of e⟩, raw_map Iv (fun _ z => z) hf hm I0 hL hI (fun H' kp => ⟨xs, SqT.of (kp _ _ n e), by rw [r.1]; exact Nat.le_refl _⟩) (fun i H' c kp => ⟨xs, xs[i]'(by rw [r.1]; exact c), SqT.of (kp _ _ n e), List.getElem?_eq_getElem _⟩) (fun D i x f H1 H' N Nx hD c ef kp L iv y hN => ?_) hd⟩⟩
    obtain ⟨rfl, hx⟩ := y
    obtain ⟨e', ee, re⟩ := rps_at r (hx xs (SqT.of (kp _ _ n e)))
    exact hs D i x e' f _ N Nx hD ee ef kp L iv ((re.grow hD).kp kp.more) hN
  · refine ⟨a, rfl, .inl ⟨⟨xs, SqL.of e⟩, raw_map Iv (fun _ z => z) hf hm I0 hL hI (fun H' kp => ⟨xs, SqL.of (kp _ _ n e), by rw [r.1]; exact Nat.le_refl _⟩) (fun i H' c kp => ⟨xs, xs[i]'(by rw [r.1]; exact c), SqL.of (kp _ _ n e), List.getElem?_eq_getElem _⟩) (fun D i x f H1 H' N Nx hD c ef kp L iv y hN => ?_) hd⟩⟩
    obtain ⟨rfl, hx⟩ := y
    obtain ⟨e', ee, re⟩ := rps_at r (hx xs (SqL.of (kp _ _ n e)))
    exact hs D i x e' f _ N Nx hD ee ef kp L iv ((re.grow hD).kp kp.more) hN
/-- over a row; what is made keeps off eo -/
theorem x_mapO {eo : List Addr} (Iv : Hp → Prop) (sub : ∀ a, a ∈ ex → a ∈ eo) (h : Rp ex H v d) (s : d.seq ds) (hf : fs.length = ds.length) (hm : ds.length < 100000) (I0 : Iv H) (hL : ∀ H', Iv H' → Live eo H') (hI : ∀ H' D o, H D = none → Iv H' → Iv (upd H' D o))
    (hs : ∀ D (i : Nat) x e f H1 (N : V → Hp → Prop) (Nx : Hp → Prop), H D = none → ds[i]? = some e → fs[i]? = some f → Kp ex H H1 → Live (D :: eo) H1 → Iv H1 → Rp ex H1 x e → (∀ y H4, Kp ex H1 H4 → Iv H4 → Rp (D :: eo) H4 y f → N y H4) →
      g x (wipe σ vs) H1 fun σ2 H2 => wipe σ2 vs = wipe σ vs ∧ tt σ2 H2 fun b H3 => if b = true then tx σ2 H3 N else Nx H3)
    (hd : ∀ v' H', Kp ex H H' → Iv H' → Rp eo H' v' (.lst fs) → Q v' H') :
    ∃ a', v = .ref a' ∧ (((∃ xs, SqL K H a' xs) ∧ rawC (Itl K a') g tt tx vs σ H Q) ∨ ((∃ xs, SqT K H a' xs) ∧ rawC (Itt K a') g tt tx vs σ H Q)) := by
  obtain ⟨a, xs, rfl, n, e, r⟩ := h.seqI s
  rcases e with e | e
  · refine ⟨a, rfl, .inr ⟨⟨xs, SqT.of e⟩, raw_map Iv sub hf hm I0 hL hI (fun H' kp => ⟨xs, SqT.of (kp _ _ n e), by rw [r.1]; exact Nat.le_refl _⟩) (fun i H' c kp => ⟨xs, xs[i]'(by rw [r.1]; exact c), SqT.of (kp _ _ n e), List.getElem?_eq_getElem _⟩) (fun D i x f H1 H' N Nx hD c ef kp L iv y hN => ?_) hd⟩⟩
    obtain ⟨rfl, hx⟩ := y
    obtain ⟨e', ee, re⟩ := rps_at r (hx xs (SqT.of (kp _ _ n e)))
    exact hs D i x e' f _ N Nx hD ee ef kp L iv (re.kp kp) hN
  · refine ⟨a, rfl, .inl ⟨⟨xs, SqL.of e⟩, raw_map Iv sub hf hm I0 hL hI (fun H' kp => ⟨xs, SqL.of (kp _ _ n e), by rw [r.1]; exact Nat.le_refl _⟩) (fun i H' c kp => ⟨xs, xs[i]'(by rw [r.1]; exact c), SqL.of (kp _ _ n e), List.getElem?_eq_getElem _⟩) (fun D i x f H1 H' N Nx hD c ef kp L iv y hN => ?_) hd⟩⟩
    obtain ⟨rfl, hx⟩ := y
    obtain ⟨e', ee, re⟩ := rps_at r (hx xs (SqL.of (kp _ _ n e)))
    exact hs D i x e' f _ N Nx hD ee ef kp L iv (re.kp kp) hN
/-- a comprehension whose items are not told one by one -/
theorem raw_mapE {J : It} {eo : List Addr} (Iv : Hp → Prop) (sub : ∀ a, a ∈ ex → a ∈ eo) (G : Nat → Da → Prop) (hm : m < 100000) (I0 : Iv H) (hL : ∀ H', Iv H' → Live eo H') (hI : ∀ H' D o, H D = none → Iv H' → Iv (upd H' D o))
    (hstop : ∀ H', Kp ex H H' → J.stop m H') (hgo : ∀ i H', i < m → Kp ex H H' → J.go i H')
    (hs : ∀ D (i : Nat) x H1 H' (N : V → Hp → Prop) (Nx : Hp → Prop), H D = none → i < m → Kp ex H H1 → Live (D :: eo) H1 → Iv H1 → J.yld i H1 x H' → (∀ y H4 f, G i f → Kp ex H1 H4 → Iv H4 → Rp (D :: eo) H4 y f → N y H4) →
      g x (wipe σ vs) H' fun σ2 H2 => wipe σ2 vs = wipe σ vs ∧ tt σ2 H2 fun b H3 => if b = true then tx σ2 H3 N else Nx H3)
    (hd : ∀ v' H' fs, fs.length = m → (∀ i f, fs[i]? = some f → G i f) → Kp ex H H' → Iv H' → Rp eo H' v' (.lst fs) → Q v' H') : rawC J g tt tx vs σ H Q := by
  intro D hD
  have nD : D ∉ eo := (hL H I0).new hD
  have nE : D ∉ ex := fun z => nD (sub _ z)
  refine ⟨fun i k H' => k = m - i ∧ i ≤ m ∧ Kp ex H H' ∧ Iv H' ∧ ∃ ys fs, H' D = some (.lst ys) ∧ fs.length = i ∧ (∀ j f, fs[j]? = some f → G j f) ∧ Rps (D :: eo) H' ys fs, ⟨m, rfl, Nat.zero_le _, Kp.refl.new hD, hI _ _ _ hD I0, [], [], upd_same, rfl, (fun j f z => by cases z), Rps.nil⟩, ?_⟩
  rintro i k H' ⟨rfl, hi, kp, iv, ys, fs, ey, lf, gf, ry⟩
  by_cases c : i < m
  · refine .inr ⟨hgo i H' c kp, fun H4 => i + 1 ≤ m ∧ Kp ex H H4 ∧ Iv H4 ∧ ∃ ys fs, H4 D = some (.lst ys) ∧ fs.length = i + 1 ∧ (∀ j f, fs[j]? = some f → G j f) ∧ Rps (D :: eo) H4 ys fs, fun H4 q => ⟨m - (i + 1), by omega, rfl, q⟩, fun x H1 y => ?_⟩
    refine hs D i x H' H1 _ _ hD c kp ((hL _ iv).cons ey) iv y fun z H4 f gz k4 iv4 r4 => ⟨ys, k4 _ _ nE ey, szl ?_, c, (kp.trans k4).own hD, hI _ _ _ hD iv4, ys ++ [z], fs ++ [f], upd_same, by simp [lf], fun j e he => ?_, ?_⟩
    · rw [ry.1]; omega
    · by_cases q : j < fs.length
      · rw [List.getElem?_append_left q] at he
        exact gf j e he
      · rw [List.getElem?_append_right (by omega)] at he
        have e0 : j - fs.length = 0 := by
          have := (List.getElem?_eq_some_iff.mp he).1
          simp at this
          omega
        rw [e0] at he
        cases he
        have ej : j = i := by omega
        rw [ej]
        exact gz
    · exact rps_snoc (rps_kp ry (((k4.mono sub).more).mut (List.mem_cons_self ..))) (r4.kp (Kp.refl.mut (List.mem_cons_self ..)))
  · have e : i = m := by omega
    subst e
    exact .inl ⟨hstop H' kp, hd (.ref D) H' fs lf gf kp iv (rps_lst (rps_tail ry) nD ey)⟩
theorem x_mapE {eo : List Addr} (Iv : Hp → Prop) (sub : ∀ a, a ∈ ex → a ∈ eo) (G : Nat → Da → Prop) (h : Rp ex H v d) (s : d.seq ds) (hm : ds.length < 100000) (I0 : Iv H) (hL : ∀ H', Iv H' → Live eo H') (hI : ∀ H' D o, H D = none → Iv H' → Iv (upd H' D o))
    (hs : ∀ D (i : Nat) x e H1 (N : V → Hp → Prop) (Nx : Hp → Prop), H D = none → ds[i]? = some e → Kp ex H H1 → Live (D :: eo) H1 → Iv H1 → Rp ex H1 x e → (∀ y H4 f, G i f → Kp ex H1 H4 → Iv H4 → Rp (D :: eo) H4 y f → N y H4) →
      g x (wipe σ vs) H1 fun σ2 H2 => wipe σ2 vs = wipe σ vs ∧ tt σ2 H2 fun b H3 => if b = true then tx σ2 H3 N else Nx H3)
    (hd : ∀ v' H' fs, fs.length = ds.length → (∀ i f, fs[i]? = some f → G i f) → Kp ex H H' → Iv H' → Rp eo H' v' (.lst fs) → Q v' H') :
    ∃ a', v = .ref a' ∧ (((∃ xs, SqL K H a' xs) ∧ rawC (Itl K a') g tt tx vs σ H Q) ∨ ((∃ xs, SqT K H a' xs) ∧ rawC (Itt K a') g tt tx vs σ H Q)) := by
  obtain ⟨a, xs, rfl, n, e, r⟩ := h.seqI s
  rcases e with e | e
  · refine ⟨a, rfl, .inr ⟨⟨xs, SqT.of e⟩, raw_mapE Iv sub G hm I0 hL hI (fun H' kp => ⟨xs, SqT.of (kp _ _ n e), by rw [r.1]; exact Nat.le_refl _⟩) (fun i H' c kp => ⟨xs, xs[i]'(by rw [r.1]; exact c), SqT.of (kp _ _ n e), List.getElem?_eq_getElem _⟩) (fun D i x H1 H' N Nx hD c kp L iv y hN => ?_) hd⟩⟩
    obtain ⟨rfl, hx⟩ := y
    obtain ⟨e', ee, re⟩ := rps_at r (hx xs (SqT.of (kp _ _ n e)))
    exact hs D i x e' _ N Nx hD ee kp L iv (re.kp kp) hN
  · refine ⟨a, rfl, .inl ⟨⟨xs, SqL.of e⟩, raw_mapE Iv sub G hm I0 hL hI (fun H' kp => ⟨xs, SqL.of (kp _ _ n e), by rw [r.1]; exact Nat.le_refl _⟩) (fun i H' c kp => ⟨xs, xs[i]'(by rw [r.1]; exact c), SqL.of (kp _ _ n e), List.getElem?_eq_getElem _⟩) (fun D i x H1 H' N Nx hD c kp L iv y hN => ?_) hd⟩⟩
    obtain ⟨rfl, hx⟩ := y
    obtain ⟨e', ee, re⟩ := rps_at r (hx xs (SqL.of (kp _ _ n e)))
    exact hs D i x e' _ N Nx hD ee kp L iv (re.kp kp) hN
theorem of_all {α : Type} {F : α → Da} {G : α → Prop} : ∀ {fs : List Da} (_ : ∀ (i : Nat) f, fs[i]? = some f → ∃ p, f = F p ∧ G p), ∃ l : List α, fs = l.map F ∧ ∀ p, p ∈ l → G p
  | [], _ => ⟨[], rfl, fun p h => (nomatch h)⟩
  | f :: fs, h => by
    obtain ⟨p, e, gp⟩ := h 0 f rfl
    obtain ⟨l, e2, gl⟩ := of_all (fs := fs) fun i z hz => h (i + 1) z hz
    exact ⟨p :: l, by rw [List.map_cons, e, e2], fun q hq => by
      rcases List.mem_cons.mp hq with rfl | hq
      · exact gp
      · exact gl q hq⟩
/-- over range(m) -/
theorem x_mapN (Iv : Hp → Prop) (hf : fs.length = m) (hm : m < 100000) (I0 : Iv H) (hL : ∀ H', Iv H' → Live ex H') (hI : ∀ H' D o, H D = none → Iv H' → Iv (upd H' D o))
    (hs : ∀ D (i : Nat) f H1 (N : V → Hp → Prop) (Nx : Hp → Prop), H D = none → i < m → fs[i]? = some f → Kp ex H H1 → Live (D :: ex) H1 → Iv H1 → (∀ y H4, Kp ex H1 H4 → Iv H4 → Rp (D :: ex) H4 y f → N y H4) →
      g (.int (i : Int)) (wipe σ vs) H1 fun σ2 H2 => wipe σ2 vs = wipe σ vs ∧ tt σ2 H2 fun b H3 => if b = true then tx σ2 H3 N else Nx H3)
    (hd : ∀ v' H', Kp ex H H' → Iv H' → Rp ex H' v' (.lst fs) → Q v' H') : rawC (Itr 0 m) g tt tx vs σ H Q := by
  refine raw_map Iv (fun _ z => z) hf hm I0 hL hI (fun H' _ => Nat.le_refl _) (fun i H' c _ => c) (fun D i x f H1 H' N Nx hD c ef kp L iv y hN => ?_) hd
  obtain ⟨rfl, rfl⟩ := y
  rw [Int.zero_add]
  exact hs D i f _ N Nx hD c ef kp L iv hN
theorem x_lcZ {tr : TA} (q : tr σ H fun us H1 => ∃ a b xs ys t u, us = [.ref a, .ref b] ∧ SqB K t H1 a xs ∧ SqB K u H1 b ys ∧ rawC (Itz2 K t u a b) g tt tx vs σ H1 Q) : tLc (iZx K tr) g tt tx vs σ H Q := q
theorem x_forZ {tr : TA} {ts : TS} {n b c : L2.St → Hp → Prop} {r : VK} (q : tr σ H fun us H1 => ∃ a b' xs ys t u, us = [.ref a, .ref b'] ∧ SqB K t H1 a xs ∧ SqB K u H1 b' ys ∧ rawJ (Itz2 K t u a b') g ts ⟨n, r, b, c⟩ σ H1) : tFor (iZx K tr) g ts ⟨n, r, b, c⟩ σ H := q
/-- a row of data as zip takes it -/
theorem Rp.sqB (h : Rp ex H v d) (s : d.seq ds) : ∃ a xs t, v = .ref a ∧ a ∉ ex ∧ Rps ex H xs ds ∧ (∀ K : PySem.W.Frag, SqB K t H a xs) ∧ ∀ (K : PySem.W.Frag) H', Kp ex H H' → SqB K t H' a xs := by
  obtain ⟨a, xs, rfl, n, e, r⟩ := h.seqI s
  rcases e with e | e
  · exact ⟨a, xs, true, rfl, n, r, fun K => SqT.of e, fun K H' kp => SqT.of (kp _ _ n e)⟩
  · exact ⟨a, xs, false, rfl, n, r, fun K => SqL.of e, fun K H' kp => SqL.of (kp _ _ n e)⟩
/-- over zip of two rows of one length -/
theorem x_mapZ (Iv : Hp → Prop) (h1 : Rp ex H v d1) (s1 : d1.seq ds) (h2 : Rp ex H u d2) (s2 : d2.seq es) (hl : es.length = ds.length) (hf : fs.length = ds.length) (hm : ds.length < 100000) (I0 : Iv H) (hL : ∀ H', Iv H' → Live ex H') (hI : ∀ H' D o, H D = none → Iv H' → Iv (upd H' D o))
    (hI2 : ∀ H' D o, H' D = none → Iv H' → Iv (upd H' D o))
    (hs : ∀ D (i : Nat) x e e' f H1 (N : V → Hp → Prop) (Nx : Hp → Prop), H D = none → ds[i]? = some e → es[i]? = some e' → fs[i]? = some f → Kp ex H H1 → Live (D :: ex) H1 → Iv H1 → Rp (D :: ex) H1 x (.tup [e, e']) → (∀ y H4, Kp ex H1 H4 → Iv H4 → Rp (D :: ex) H4 y f → N y H4) →
      g x (wipe σ vs) H1 fun σ2 H2 => wipe σ2 vs = wipe σ vs ∧ tt σ2 H2 fun b H3 => if b = true then tx σ2 H3 N else Nx H3)
    (hd : ∀ v' H', Kp ex H H' → Iv H' → Rp ex H' v' (.lst fs) → Q v' H') :
    ∃ a b xs ys t u', [v, u] = [.ref a, .ref b] ∧ SqB K t H a xs ∧ SqB K u' H b ys ∧ rawC (Itz2 K t u' a b) g tt tx vs σ H Q := by
  obtain ⟨a, xs, t, rfl, na, ra, qa, ka⟩ := h1.sqB s1
  obtain ⟨b, ys, u', rfl, nb, rb, qb, kb⟩ := h2.sqB s2
  refine ⟨a, b, xs, ys, t, u', rfl, qa K, qb K, raw_map Iv (fun _ z => z) hf hm I0 hL hI (fun H' kp => ⟨xs, ys, ka K H' kp, kb K H' kp, .inl (by rw [ra.1]; exact Nat.le_refl _)⟩) (fun i H' c kp => ⟨xs, ys, xs[i]'(by rw [ra.1]; exact c), ys[i]'(by rw [rb.1, hl]; exact c), ka K H' kp, kb K H' kp, List.getElem?_eq_getElem _, List.getElem?_eq_getElem _⟩) (fun D i x f H1 H' N Nx hD c ef kp L iv y hN => ?_) hd⟩
  obtain ⟨T, x1, y1, rfl, hT, rfl, hx, hy⟩ := y
  obtain ⟨e, ee, re⟩ := rps_at ra (hx xs (ka K _ kp))
  obtain ⟨e', ee', re'⟩ := rps_at rb (hy ys (kb K _ kp))
  have s := Same.new (o := .tup [x1, y1]) (Same.refl H1) hT
  refine hs D i _ e e' f _ N Nx hD ee ee' ef (kp.same s) (L.same s) (hI2 _ _ _ hT iv) ?_ fun y H4 k4 iv4 r4 => hN y H4 ((Same.kp s).trans k4) iv4 r4
  exact rps_tup (Rps.cons (((re.grow hD).kp kp.more).same s) (Rps.cons (((re'.grow hD).kp kp.more).same s) Rps.nil)) (L.new hT) upd_same
/-- a loop over zip of two rows of one length; H0, a heap that knows them -/
theorem x_zipF {H0 : Hp} {ts : TS} {n b c : L2.St → Hp → Prop} {r : VK} (h1 : Rp ex H0 v d1) (s1 : d1.seq ds) (h2 : Rp ex H0 u d2) (s2 : d2.seq es) (hl : es.length = ds.length) (Pv : Nat → L2.St → Hp → Prop) (h0 : Pv 0 σ H) (hk : ∀ i σ H', Pv i σ H' → Kp ex H0 H' ∧ Live ex H')
    (hs : ∀ (i : Nat) x e e' σ H1 H', ds[i]? = some e → es[i]? = some e' → Pv i σ H1 → Same H1 H' → Rp ex H' x (.tup [e, e']) → g x σ H' fun σ2 H2 => ts ⟨Pv (i + 1), r, n, Pv (i + 1)⟩ σ2 H2)
    (hd : ∀ σ H, Pv ds.length σ H → n σ H) :
    ∃ a b' xs ys t u', [v, u] = [.ref a, .ref b'] ∧ SqB K t H a xs ∧ SqB K u' H b' ys ∧ rawJ (Itz2 K t u' a b') g ts ⟨n, r, b, c⟩ σ H := by
  obtain ⟨a, xs, t, rfl, na, ra, qa, ka⟩ := h1.sqB s1
  obtain ⟨b', ys, u', rfl, nb, rb, qb, kb⟩ := h2.sqB s2
  obtain ⟨kp0, _⟩ := hk 0 σ H h0
  refine ⟨a, b', xs, ys, t, u', rfl, ka K H kp0, kb K H kp0, fun i k σ H' => k = ds.length - i ∧ i ≤ ds.length ∧ Pv i σ H', ⟨_, rfl, Nat.zero_le _, h0⟩, ?_⟩
  rintro i k σ H' ⟨rfl, hi, p⟩
  obtain ⟨kp, L⟩ := hk i σ H' p
  by_cases c : i < ds.length
  · refine .inr ⟨⟨xs, ys, xs[i]'(by rw [ra.1]; exact c), ys[i]'(by rw [rb.1, hl]; exact c), ka K H' kp, kb K H' kp, List.getElem?_eq_getElem _, List.getElem?_eq_getElem _⟩, Pv (i + 1), fun σ' H2 p' => ⟨ds.length - (i + 1), by omega, rfl, c, p'⟩, fun x H2 y => ?_⟩
    obtain ⟨T, x1, y1, rfl, hT, rfl, hx, hy⟩ := y
    obtain ⟨e, ee, re⟩ := rps_at ra (hx xs (ka K _ kp))
    obtain ⟨e', ee', re'⟩ := rps_at rb (hy ys (kb K _ kp))
    have s := Same.new (o := .tup [x1, y1]) (Same.refl H') hT
    exact hs i _ e e' σ H' _ ee ee' p s (rps_tup (Rps.cons ((re.kp kp).same s) (Rps.cons ((re'.kp kp).same s) Rps.nil)) (L.new hT) upd_same)
  · have e : i = ds.length := by omega
    subst e
    exact .inl ⟨⟨xs, ys, ka K H' kp, kb K H' kp, .inl (by rw [ra.1]; exact Nat.le_refl _)⟩, hd σ H' p⟩
/-- a loop over a row -/
theorem x_loopS {H0 : Hp} {ts : TS} {n b c : L2.St → Hp → Prop} {r : VK} (h : Rp ex H0 v d) (s : d.seq ds) (Pv : Nat → L2.St → Hp → Prop) (h0 : Pv 0 σ H) (hk : ∀ i σ H', Pv i σ H' → Kp ex H0 H')
    (hs : ∀ (i : Nat) x e σ H1, ds[i]? = some e → Pv i σ H1 → Rp ex H1 x e → Rp ex H0 x e → g x σ H1 fun σ2 H2 => ts ⟨Pv (i + 1), r, n, Pv (i + 1)⟩ σ2 H2) (hd : ∀ σ H, Pv ds.length σ H → n σ H) :
    ∃ a', v = .ref a' ∧ (((∃ xs, SqL K H a' xs) ∧ rawJ (Itl K a') g ts ⟨n, r, b, c⟩ σ H) ∨ ((∃ xs, SqT K H a' xs) ∧ rawJ (Itt K a') g ts ⟨n, r, b, c⟩ σ H)) := by
  obtain ⟨a, xs, rfl, na, e, ra⟩ := h.seqI s
  have kp0 := hk 0 σ H h0
  rcases e with e | e
  · refine x_loopT (SqT.of (kp0 _ _ na e)) Pv h0 (fun i σ H' _ p => SqT.of (hk i σ H' p _ _ na e)) (fun i x σ H1 hx p => ?_) (by rw [ra.1]; exact hd)
    obtain ⟨f, ef, rf⟩ := rps_at ra hx
    exact hs i x f σ H1 ef p (rf.kp (hk i σ H1 p)) rf
  · refine x_loopL (SqL.of (kp0 _ _ na e)) Pv h0 (fun i σ H' _ p => SqL.of (hk i σ H' p _ _ na e)) (fun i x σ H1 hx p => ?_) (by rw [ra.1]; exact hd)
    obtain ⟨f, ef, rf⟩ := rps_at ra hx
    exact hs i x f σ H1 ef p (rf.kp (hk i σ H1 p)) rf
/-- taken apart -/
theorem x_gRp {gs : TGs} {n : L2.St → Hp → Prop} (h : Rp ex H v d) (s : d.seq ds) (e : ds.length = m) (q : ∀ xs, Rps ex H xs ds → gs xs σ H n) : gX K m gs v σ H n := by
  obtain ⟨a, xs, rfl, na, e', r⟩ := h.seqI s
  exact x_gX e' (by rw [r.1, e]) (q xs r)
theorem rps_two {xs : List V} {i j : Int} (r : Rps ex H xs [.int i, .int j]) : xs = [.int i, .int j] := by
  obtain ⟨l, q⟩ := r
  match xs, l, q with
  | [a, b], _, q =>
    rw [(q 0 a (.int i) rfl rfl).intI, (q 1 b (.int j) rfl rfl).intI]
theorem x_gPair {gs : TGs} {i j : Int} {n : L2.St → Hp → Prop} (h : Rp ex H v d) (s : d.seq [.int i, .int j]) (q : gs [.int i, .int j] σ H n) : gX K 2 gs v σ H n :=
  x_gRp h s rfl fun xs r => by rw [rps_two r]; exact q
theorem rps_2 {xs : List V} (r : Rps ex H xs [d1, d2]) : ∃ x y, xs = [x, y] ∧ Rp ex H x d1 ∧ Rp ex H y d2 := by
  obtain ⟨l, q⟩ := r
  match xs, l, q with
  | [a, b], _, q => exact ⟨a, b, rfl, q 0 a d1 rfl rfl, q 1 b d2 rfl rfl⟩
theorem mx2 (i j : Int) : nuMax2 (.int i) (.int j) = some (.int (if j > i then j else i)) := by
  show some (if decide (i < j) = true then V.int j else V.int i) = _
  by_cases c : i < j
  · rw [decide_eq_true c, if_pos rfl, if_pos c]
  · rw [decide_eq_false c, if_neg (by decide), if_neg c]
theorem nuMax3_int (i j k : Int) : nuMax3 (.int i) (.int j) (.int k) = some (.int (if k > (if j > i then j else i) then k else if j > i then j else i)) := by
  unfold nuMax3
  rw [mx2]
  exact mx2 _ _
theorem x_slFromL {k : Nat} {z : Int} (h : Rp ex H v (.lst ds)) (hz : z = (k : Int)) (L : Live ex H) (q : ∀ v' H', Same H H' → Rp ex H' v' (.lst (ds.drop k)) → Q v' H') : rSlX K v (some z) none H Q := by
  subst hz
  obtain ⟨a, xs, rfl, n, e, r⟩ := h.lstI
  have r2 : Rps ex H (cutV xs (some (k : Int)) none) (ds.drop k) := by rw [cut_from]; exact rps_drop r
  exact x_slL (SqL.of e) fun p hp => q _ _ (Same.new (Same.refl _) hp) (rps_lst (rps_same r2 (Same.new (Same.refl _) hp)) (L.new hp) upd_same)
/-- three numbers' greatest -/
theorem x_max3 {i j k : Int} (q : Q (.int (if k > (if j > i then j else i) then k else if j > i then j else i)) H) : rMx3 [.int i, .int j, .int k] H Q := ⟨.int i, .int j, .int k, _, rfl, nuMax3_int i j k, q⟩
/-! least and greatest of a row -/
theorem ints_of {xs : List V} {ns : List Int} (r : Rps ex H xs (ns.map Da.int)) : xs = ns.map V.int := by
  refine List.ext_getElem? fun i => ?_
  by_cases c : i < ns.length
  · have h2 : (ns.map Da.int)[i]? = some (.int ns[i]) := by rw [List.getElem?_map, List.getElem?_eq_getElem c]; rfl
    obtain ⟨x, hx, rx⟩ := rps_get r h2
    rw [hx, rx.intI, List.getElem?_map, List.getElem?_eq_getElem c]; rfl
  · rw [List.getElem?_eq_none (by rw [r.1, List.length_map]; omega), List.getElem?_eq_none (by rw [List.length_map]; omega)]
noncomputable def mnL (ns : List Int) : Int := open Classical in if h : ∃ m, m ∈ ns ∧ ∀ y, y ∈ ns → m ≤ y then h.choose else 0
noncomputable def mxL (ns : List Int) : Int := open Classical in if h : ∃ m, m ∈ ns ∧ ∀ y, y ∈ ns → y ≤ m then h.choose else 0
theorem mnL_eq {ns : List Int} {m : Int} (h1 : m ∈ ns) (h2 : ∀ y, y ∈ ns → m ≤ y) : m = mnL ns := by
  have h : ∃ m, m ∈ ns ∧ ∀ y, y ∈ ns → m ≤ y := ⟨m, h1, h2⟩
  unfold mnL
  rw [dif_pos h]
  exact Int.le_antisymm (h2 _ h.choose_spec.1) (h.choose_spec.2 _ h1)
theorem mxL_eq {ns : List Int} {m : Int} (h1 : m ∈ ns) (h2 : ∀ y, y ∈ ns → y ≤ m) : m = mxL ns := by
  have h : ∃ m, m ∈ ns ∧ ∀ y, y ∈ ns → y ≤ m := ⟨m, h1, h2⟩
  unfold mxL
  rw [dif_pos h]
  exact Int.le_antisymm (h.choose_spec.2 _ h1) (h2 _ h.choose_spec.1)
theorem x_minL {ns : List Int} (h : Rp ex H v (.lst (ns.map Da.int))) (h0 : 0 < ns.length) (q : Q (.int (mnL ns)) H) : rMin K [v] H Q := by
  obtain ⟨a, xs, rfl, na, e, r⟩ := h.lstI
  rw [ints_of r] at e
  exact ⟨a, ns, rfl, SqL.of e, h0, fun m h1 h2 => by rw [mnL_eq h1 h2]; exact q⟩
theorem x_maxL {ns : List Int} (h : Rp ex H v (.lst (ns.map Da.int))) (h0 : 0 < ns.length) (q : Q (.int (mxL ns)) H) : rMax K [v] H Q := by
  obtain ⟨a, xs, rfl, na, e, r⟩ := h.lstI
  rw [ints_of r] at e
  exact ⟨a, ns, rfl, SqL.of e, h0, fun m h1 h2 => by rw [mxL_eq h1 h2]; exact q⟩
theorem bls_of {xs : List V} {ns : List Bool} (r : Rps ex H xs (ns.map Da.bl)) : xs = ns.map V.bl := by
  refine List.ext_getElem? fun i => ?_
  by_cases c : i < ns.length
  · have h2 : (ns.map Da.bl)[i]? = some (.bl ns[i]) := by rw [List.getElem?_map, List.getElem?_eq_getElem c]; rfl
    obtain ⟨x, hx, rx⟩ := rps_get r h2
    rw [hx, rx.blI, List.getElem?_map, List.getElem?_eq_getElem c]; rfl
  · rw [List.getElem?_eq_none (by rw [r.1, List.length_map]; omega), List.getElem?_eq_none (by rw [List.length_map]; omega)]
theorem x_allR {ns : List Bool} (h : Rp ex H v (.lst (ns.map Da.bl))) (q : Q (.bl (ns.all id)) H) : rAll K [v] H Q := by
  obtain ⟨a, xs, rfl, na, e, r⟩ := h.lstI
  rw [bls_of r] at e
  exact x_allB ns e q
theorem x_tupR (h : Rp ex H v (.lst ds)) (L : Live ex H) (q : ∀ v' H', Same H H' → Rp ex H' v' (.tup ds) → Q v' H') : rTupOf K [v] H Q := by
  obtain ⟨a, xs, rfl, na, e, r⟩ := h.lstI
  exact x_tupL (SqL.of e) fun p hp => q _ _ (Same.new (Same.refl _) hp) (rps_tup (rps_same r (Same.new (Same.refl _) hp)) (L.new hp) upd_same)
end
end Bx
namespace Bx
open PySem PySem.Spec PyProof.Rows L2
/-! ### (e,) * n for larger n -/
def rRepTW (K : PySem.W.Frag) : R2 := fun x y H Q => ∃ l k xs, x = .ref l ∧ y = .int k ∧ SqT K H l xs ∧ xs ≠ [] ∧ 2 ≤ k ∧ k ≤ 16000 ∧ xs.length ≤ 1000 ∧ ∀ p, H p = none → Q (.ref p) (upd H p (.tup (List.replicate k.toNat xs).flatten))
theorem op_repTW {X : Cx} : OpR X (binaryOp .Mult) (rRepTW X.K) := by
  intro pins s σ H x y v u Q I rx ry h
  obtain ⟨l, k, xs, rfl, rfl, hT, hne, h1, h2, hz, q⟩ := h
  cases rx
  obtain ⟨t, rfl⟩ := ry
  obtain ⟨its, r, ⟨⟨cls, dd, data, sl⟩, ho, hc, n, hd⟩, hs⟩ := I.tuple hT
  simp only at hc hd
  subst hc hd
  have hle : its.length = xs.length := r.length.symm
  have hn : its ≠ [] := fun e => hne (by
    rw [e] at hle
    exact List.eq_nil_of_length_eq_zero hle.symm)
  have hi : its.toArray.isEmpty = false := by
    cases its with
    | nil => exact absurd rfl hn
    | cons a b => rfl
  have hsz0 : its.toArray.size = xs.length := by rw [List.size_toArray, hle]
  have hm : ((its.toArray.size : Nat) : Int) * k ≤ 16000000 := by
    rw [hsz0]
    have a1 : ((xs.length : Nat) : Int) * k ≤ 1000 * k := Int.mul_le_mul_of_nonneg_right (by omega) (by omega)
    omega
  have lim : k.toNat * xs.length ≤ 16000 * 1000 := Nat.mul_le_mul (by omega) hz
  have flen : (List.replicate k.toNat its).flatten.length ≤ sizeLine := by
    rw [PyProof.Rows.lm_len_rep_flat, hle, sizeLine_eq]
    omega
  have c0 : (decide (k < -(2 ^ 63)) || decide (k ≥ 2 ^ 63)) = false := by
    rw [decide_eq_false (by omega), decide_eq_false (by omega)] <;> rfl
  have c1 : (its.toArray.isEmpty || k == 1) = false := by
    rw [hi, Bool.false_or]
    exact beq_eq_false_iff_ne.mpr (by omega)
  have c2 : (decide (k ≤ 0) || its.toArray.isEmpty) = false := by
    rw [hi, Bool.or_false]
    exact decide_eq_false (by omega)
  have c4 : Builtin.Tuple.tupleTooMany (((its.toArray.size : Nat) : Int) * k) = false := by
    unfold Builtin.Tuple.tupleTooMany
    rw [sizeLine_eq]
    exact decide_eq_false (by omega)
  refine wpAny_binaryOp_repeat_ref (T := "tuple") (U := "int") (by decide) ⟨_, ho, rfl⟩ (fun s' => typeIs_int s' k t) noFill_tuple_mul F.fills_int_mul F.slot_int_rmul repeat_tuple F.slot_int_index.lookup
    (call_meets F.slot_int_rmul (typeIs_int s k t) F.entry_int_rmul (F.args_int_rmul_2 _ _) (int_rmul_tuple k t l its.toArray n dd sl)
      ⟨ho, rfl, ⟨_, ho, rfl⟩, call_meets F.slot_tuple_mul ⟨_, ho, rfl⟩ F.entry_tuple_mul (F.args_tuple_mul_2 _ _) (tuple_mulW l its.toArray n dd sl k t c0 c1 c2 (by omega) c4 (by rw [size_rep, List.size_toArray]; exact flen)) ⟨ho, ?_⟩⟩)
  rw [size_rep]
  refine ⟨.ref s.heap.objs.size, _, I.laid (t' := s.toks) (o := .tup (List.replicate k.toNat xs).flatten) (fun b ob q => Heap.get?_push_of_some _ q) (Nat.le_refl _) ?_, rfl, q _ (I.hok.fresh (Nat.le_refl _))⟩
  exact ⟨by rw [PyProof.Rows.lm_len_rep_flat, sizeLine_eq]; omega, _, r.rep k.toNat, IsTup.new _ _⟩
theorem x_repTW {K : PySem.W.Frag} {l : Addr} {k : Int} {n : Nat} {xs : List V} {H : Hp} {Q : VK} (h : H l = some (.tup xs)) (hk : k = (n : Int)) (h0 : xs ≠ []) (h1 : 2 ≤ n) (h2 : n ≤ 16000) (h3 : xs.length ≤ 1000) (q : ∀ p H', Same H H' → H' p = some (.tup (List.replicate n xs).flatten) → Q (.ref p) H') : rRepTW K (.ref l) (.int k) H Q := by
  subst hk
  exact ⟨l, _, xs, rfl, rfl, SqT.of h, h0, by omega, by omega, h3, fun p hp => by rw [Int.toNat_natCast]; exact q p _ (Same.new (Same.refl _) hp) upd_same⟩
/-! ### z * n, n = 1 too -/
def rMulS2 : R2 := fun x y H Q => rMulS x y H Q ∨ ∃ z : Str, x = .str z ∧ y = .int 1 ∧ Q (.str z) H
theorem op_mulS2 {X : Cx} : OpR X (binaryOp .Mult) rMulS2 := by
  intro pins s σ H x y v u Q I rx ry h
  rcases h with h | ⟨z, rfl, rfl, q⟩
  · exact op_mulS pins s σ H _ _ _ _ Q I rx ry h
  · obtain ⟨t, rfl⟩ := rx
    obtain ⟨t', rfl⟩ := ry
    refine PySem.P.mul_str (by decide) (fun _ e => nomatch e) (fun _ e => nomatch e) ?_
    rw [if_neg (by decide), if_pos (by rfl)]
    exact ⟨.str z, H, I, ⟨_, rfl⟩, q⟩
/-! ### dict(d) -/
def rDictD : List V → Hp → VK → Prop := fun xs H Q => ∃ (a : Addr) (kvs : List (Key × V)), xs = [.ref a] ∧ Rd H a (.dK kvs) ∧ ∀ p, H p = none → Q (.ref p) (upd H p (.dK kvs))
theorem c_dictD {X : Cx} : CallR X (.type "dict") rDictD := call_dictD
theorem x_dictD {a : Addr} {kvs : List (Key × V)} {H : Hp} {Q : VK} (h : H a = some (.dK kvs)) (q : ∀ p H', Same H H' → H p = none → H' p = some (.dK kvs) → Q (.ref p) H') : rDictD [.ref a] H Q :=
  ⟨a, kvs, rfl, .inl h, fun p hp => q p _ (Same.new (Same.refl _) hp) hp upd_same⟩
/-! ### try .. except C: -/
def tTryO (K : PySem.W.Frag) (C : Addr) (tb : WX → TS) (ts : Addr → Value → Option Addr → TS) (Wo : WX) : TS := fun D σ H => tb (wOnly K (.ref C) ts Wo D) D σ H
theorem x_tryO {K : PySem.W.Frag} {C : Addr} {tb : WX → TS} {ts : Addr → Value → Option Addr → TS} {Wo : WX} {σ : L2.St} {H : Hp} {n b c : L2.St → Hp → Prop} {r : VK} (q : tb (wOnly K (.ref C) ts Wo ⟨n, r, b, c⟩) ⟨n, r, b, c⟩ σ H) : tTryO K C tb ts Wo ⟨n, r, b, c⟩ σ H := q
/-! ### zip of two lists, the shorter one ends it -/
theorem x_zipM {K : PySem.W.Frag} {g : TG} {ts : TS} {n b c : L2.St → Hp → Prop} {r : VK} {σ : L2.St} {H : Hp} {a a' : Addr} {t u : Bool} {xs ys : List V} {m : Nat} (hm1 : m ≤ xs.length) (hm2 : m ≤ ys.length) (he : m = xs.length ∨ m = ys.length) (Pv : Nat → L2.St → Hp → Prop) (h0 : Pv 0 σ H)
    (hk : ∀ i σ H', Pv i σ H' → SqB K t H' a xs ∧ SqB K u H' a' ys)
    (hs : ∀ (i : Nat) x y T σ H1, xs[i]? = some x → ys[i]? = some y → Pv i σ H1 → H1 T = none → g (.ref T) σ (upd H1 T (.tup [x, y])) fun σ2 H2 => ts ⟨Pv (i + 1), r, n, Pv (i + 1)⟩ σ2 H2)
    (hd : ∀ σ H, Pv m σ H → n σ H) :
    ∃ p p' ps qs t u', [V.ref a, V.ref a'] = [.ref p, .ref p'] ∧ SqB K t H p ps ∧ SqB K u' H p' qs ∧ rawJ (Itz2 K t u' p p') g ts ⟨n, r, b, c⟩ σ H := by
  obtain ⟨k1, k2⟩ := hk 0 σ H h0
  refine ⟨a, a', xs, ys, t, u, rfl, k1, k2, fun i k σ H' => k = m - i ∧ i ≤ m ∧ Pv i σ H', ⟨_, rfl, Nat.zero_le _, h0⟩, ?_⟩
  rintro i k σ H' ⟨rfl, hi, p⟩
  obtain ⟨k1, k2⟩ := hk i σ H' p
  by_cases c : i < m
  · refine .inr ⟨⟨xs, ys, xs[i]'(by omega), ys[i]'(by omega), k1, k2, List.getElem?_eq_getElem _, List.getElem?_eq_getElem _⟩, Pv (i + 1), fun σ' H2 p' => ⟨m - (i + 1), by omega, rfl, c, p'⟩, fun x H2 y => ?_⟩
    obtain ⟨T, x1, y1, rfl, hT, rfl, hx, hy⟩ := y
    exact hs i x1 y1 T σ H' (hx xs k1) (hy ys k2) p hT
  · have e : i = m := by omega
    subst e
    exact .inl ⟨⟨xs, ys, k1, k2, he.imp (fun z => Nat.le_of_eq z.symm) fun z => Nat.le_of_eq z.symm⟩, hd σ H' p⟩
end Bx
namespace Bx
open PySem L2
local macro_rules | `(tactic| walk_at "st") => `(tactic| first
  | (with_reducible refine x_seq ?_)
  | (with_reducible refine x_asg ?_)
  | (with_reducible refine x_ret ?_)
  | (with_reducible refine x_drop ?_)
  | (with_reducible refine x_ifS ?_)
  | (with_reducible refine x_next ?_)
  | (with_reducible refine x_gName ?_)
  | ((with_reducible refine x_var (v := ?v) ?hv ?qv); (case hv => rfl))
  | (with_reducible refine x_c ?_)
  | (with_reducible refine x_op ?_)
  | (with_reducible refine x_un ?_)
  | (with_reducible refine x_sub ?_)
  | (with_reducible refine x_lt ?_)
  | (with_reducible refine x_le ?_)
  | (with_reducible refine x_gt ?_)
  | (with_reducible refine x_ge ?_)
  | (with_reducible refine x_neg ?_)
  | (with_reducible refine x_isN ?_)
  | (with_reducible refine x_notN ?_)
  | (with_reducible refine x_abs ?_)
  | (with_reducible refine x_addI ?_)
  | (with_reducible refine x_eqI ?_)
  | (with_reducible refine x_neI ?_)
  | (with_reducible refine x_test ?_)
  | (with_reducible refine x_tB ?_)
  | (with_reducible refine x_isB ?_)
  | (with_reducible refine x_and ?_)
  | (with_reducible refine x_or ?_)
  | (with_reducible refine x_not ?_)
  | (with_reducible refine x_andV ?_)
  | (with_reducible refine x_orV ?_)
  | (with_reducible refine x_notV ?_)
  | (with_reducible refine x_chain ?_)
  | (with_reducible refine x_ifE ?_)
  | (with_reducible refine x_cons ?_)
  | (with_reducible refine x_nil ?_)
  | (with_reducible refine x_tup ?_)
  | (with_reducible refine x_lst ?_)
  | (with_reducible refine x_cb ?_)
  | (with_reducible refine x_call ?_)
  | (with_reducible refine x_callK ?_)
  | (with_reducible refine x_callS ?_)
  | (with_reducible refine x_callSK ?_)
  | (with_reducible refine x_sl ?_)
  | (with_reducible refine x_no ?_)
  | (with_reducible refine x_part ?_)
  | (with_reducible refine x_exI ?_)
  | (with_reducible refine x_bm ?_)
  | (with_reducible refine x_gSub ?_)
  | (with_reducible refine x_gCons ?_)
  | (with_reducible refine x_gNil ?_)
  | (with_reducible refine x_iteT ?_)
  | (with_reducible refine x_iteF ?_)
  | (with_reducible refine x_iteNT ?_)
  | (with_reducible refine x_iteNF ?_)
  | (with_reducible refine x_int1 ?_)
  | (with_reducible refine x_max2 ?_)
  | (with_reducible refine x_min2 ?_)
  | (with_reducible refine x_forX ?_)
  | (with_reducible refine x_forR ?_)
  | (with_reducible refine x_lcX ?_)
  | (with_reducible refine x_lcR ?_)
  | (with_reducible refine x_tYes ?_)
  | (with_reducible refine x_forZ ?_)
  | (with_reducible refine x_lcZ ?_)
  | (with_reducible refine x_max3 ?_)
  | (with_reducible refine x_brk ?_))
local macro_rules | `(tactic| walk_at "sts") => `(tactic| repeat (walk_at "st"))
local macro_rules | `(tactic| walk_at "isa") => `(tactic| first | rfl | (dsimp only [Da.isa]; decide))
local macro_rules | `(tactic| walk_at "rp") => `(tactic| first
  | assumption
  | exact Rp.int _ | exact Rp.non | exact Rp.bl _ | exact Rp.str _
  | ((refine Rp.same (H := ?Ha) ?ra ?rb); (case rb => assumption); (case ra => walk_at "rp"))
  | ((refine Rp.kp (H := ?Ha) ?ra ?rb); (case rb => assumption); (case ra => walk_at "rp")))
local macro_rules | `(tactic| walk_at "rps") => `(tactic| first
  | exact Rps.nil
  | ((refine Rps.cons ?ra ?rb); (case ra => walk_at "rp"); (case rb => walk_at "rps")))
local macro_rules | `(tactic| walk_at "wd") => `(tactic| first
  | assumption
  | ((refine Wd.same (H := ?Ha) ?ra ?rb); (case rb => assumption); (case ra => walk_at "wd")))
local macro_rules | `(tactic| walk_at "len") => `(tactic| first | exact Nat.le_of_ble_eq_true rfl | (simp; done) | (simp; omega))

def top (i : Nat) : Stmt := PySem.Challenge.pw_boundstead_k34_limits_take_disks_down.main.body.getD i (.Pass ⟨0, 0, 0, 0⟩)
abbrev s__wall : Stmt := top 0
abbrev N__wall : List Str := ["k"]
theorem sc__wall : FnScope N__wall ["k"] (defScope s__wall) := ⟨rfl, rfl, rfl, by decide +kernel, rfl, by decide +kernel, by decide +kernel⟩
abbrev s_is_integer : Stmt := top 6
abbrev N_is_integer : List Str := ["value"]
theorem sc_is_integer : FnScope N_is_integer ["value"] (defScope s_is_integer) := ⟨rfl, rfl, rfl, by decide +kernel, rfl, by decide +kernel, by decide +kernel⟩
abbrev s_is_sequence : Stmt := top 7
abbrev N_is_sequence : List Str := ["value"]
theorem sc_is_sequence : FnScope N_is_sequence ["value"] (defScope s_is_sequence) := ⟨rfl, rfl, rfl, by decide +kernel, rfl, by decide +kernel, by decide +kernel⟩
abbrev s_is_within : Stmt := top 8
abbrev N_is_within : List Str := ["value", "least", "most"]
theorem sc_is_within : FnScope N_is_within ["value", "least", "most"] (defScope s_is_within) := ⟨rfl, rfl, rfl, by decide +kernel, rfl, by decide +kernel, by decide +kernel⟩
abbrev s_is_cell : Stmt := top 15
abbrev N_is_cell : List Str := ["value"]
theorem sc_is_cell : FnScope N_is_cell ["value"] (defScope s_is_cell) := ⟨rfl, rfl, rfl, by decide +kernel, rfl, by decide +kernel, by decide +kernel⟩
abbrev s_is_cell_text : Stmt := top 16
abbrev N_is_cell_text : List Str := ["value", "plain"]
theorem sc_is_cell_text : FnScope N_is_cell_text ["value"] (defScope s_is_cell_text) := ⟨rfl, rfl, rfl, by decide +kernel, rfl, by decide +kernel, by decide +kernel⟩
abbrev s_are_fates : Stmt := top 17
abbrev N_are_fates : List Str := ["value", "fate"]
theorem sc_are_fates : FnScope N_are_fates ["value"] (defScope s_are_fates) := ⟨rfl, rfl, rfl, by decide +kernel, rfl, by decide +kernel, by decide +kernel⟩
abbrev s_Disk____init__ : Stmt := sub (top 18) 0
abbrev N_Disk____init__ : List Str := ["self"]
theorem sc_Disk____init__ : FnScope N_Disk____init__ ["self"] (defScope s_Disk____init__) := ⟨rfl, rfl, rfl, by decide +kernel, rfl, by decide +kernel, by decide +kernel⟩
abbrev s_Disk__write : Stmt := sub (top 18) 1
abbrev N_Disk__write : List Str := ["self", "cell", "text"]
theorem sc_Disk__write : FnScope N_Disk__write ["self", "cell", "text"] (defScope s_Disk__write) := ⟨rfl, rfl, rfl, by decide +kernel, rfl, by decide +kernel, by decide +kernel⟩
abbrev s_Disk__read : Stmt := sub (top 18) 2
abbrev N_Disk__read : List Str := ["self", "cell"]
theorem sc_Disk__read : FnScope N_Disk__read ["self", "cell"] (defScope s_Disk__read) := ⟨rfl, rfl, rfl, by decide +kernel, rfl, by decide +kernel, by decide +kernel⟩
abbrev s_Disk__sync : Stmt := sub (top 18) 3
abbrev N_Disk__sync : List Str := ["self", "cell", "text"]
theorem sc_Disk__sync : FnScope N_Disk__sync ["self"] (defScope s_Disk__sync) := ⟨rfl, rfl, rfl, by decide +kernel, rfl, by decide +kernel, by decide +kernel⟩
abbrev s_Disk__pending : Stmt := sub (top 18) 4
abbrev N_Disk__pending : List Str := ["self"]
theorem sc_Disk__pending : FnScope N_Disk__pending ["self"] (defScope s_Disk__pending) := ⟨rfl, rfl, rfl, by decide +kernel, rfl, by decide +kernel, by decide +kernel⟩
abbrev s_Disk__limit : Stmt := sub (top 18) 5
abbrev N_Disk__limit : List Str := ["self", "steps"]
theorem sc_Disk__limit : FnScope N_Disk__limit ["self", "steps"] (defScope s_Disk__limit) := ⟨rfl, rfl, rfl, by decide +kernel, rfl, by decide +kernel, by decide +kernel⟩
abbrev s_Disk__restart : Stmt := sub (top 18) 6
abbrev N_Disk__restart : List Str := ["self", "fates", "cell", "text", "fate"]
theorem sc_Disk__restart : FnScope N_Disk__restart ["self", "fates"] (defScope s_Disk__restart) := ⟨rfl, rfl, rfl, by decide +kernel, rfl, by decide +kernel, by decide +kernel⟩
abbrev s_Disk__reads : Stmt := sub (top 18) 7
abbrev N_Disk__reads : List Str := ["self"]
theorem sc_Disk__reads : FnScope N_Disk__reads ["self"] (defScope s_Disk__reads) := ⟨rfl, rfl, rfl, by decide +kernel, rfl, by decide +kernel, by decide +kernel⟩
abbrev s_Disk__writes : Stmt := sub (top 18) 8
abbrev N_Disk__writes : List Str := ["self"]
theorem sc_Disk__writes : FnScope N_Disk__writes ["self"] (defScope s_Disk__writes) := ⟨rfl, rfl, rfl, by decide +kernel, rfl, by decide +kernel, by decide +kernel⟩
abbrev s_Disk__forget : Stmt := sub (top 18) 9
abbrev N_Disk__forget : List Str := ["self"]
theorem sc_Disk__forget : FnScope N_Disk__forget ["self"] (defScope s_Disk__forget) := ⟨rfl, rfl, rfl, by decide +kernel, rfl, by decide +kernel, by decide +kernel⟩
abbrev s_Disk___step : Stmt := sub (top 18) 10
abbrev N_Disk___step : List Str := ["self"]
theorem sc_Disk___step : FnScope N_Disk___step ["self"] (defScope s_Disk___step) := ⟨rfl, rfl, rfl, by decide +kernel, rfl, by decide +kernel, by decide +kernel⟩
abbrev s__law_so : Stmt := top 20
abbrev N__law_so : List Str := ["found", "meant", "k"]
theorem sc__law_so : FnScope N__law_so ["found", "meant"] (defScope s__law_so) := ⟨rfl, rfl, rfl, by decide +kernel, rfl, by decide +kernel, by decide +kernel⟩
abbrev s__law_numbers : Stmt := top 21
abbrev N__law_numbers : List Str := ["script", "row", "cell", "left", "k", "mixed"]
theorem sc__law_numbers : FnScope N__law_numbers ["script"] (defScope s__law_numbers) := ⟨rfl, rfl, rfl, by decide +kernel, rfl, by decide +kernel, by decide +kernel⟩
abbrev s__law_draw : Stmt := top 22
abbrev N__law_draw : List Str := ["row", "at", "limit", "mixed"]
theorem sc__law_draw : FnScope N__law_draw ["row", "at", "limit"] (defScope s__law_draw) := ⟨rfl, rfl, rfl, by decide +kernel, rfl, by decide +kernel, by decide +kernel⟩
abbrev s__law_take : Stmt := top 23
abbrev N__law_take : List Str := ["row", "spot", "limit"]
theorem sc__law_take : FnScope N__law_take ["row", "spot", "limit"] (defScope s__law_take) := ⟨rfl, rfl, rfl, by decide +kernel, rfl, by decide +kernel, by decide +kernel⟩
abbrev s__law_text : Stmt := top 24
abbrev N__law_text : List Str := ["row", "spot", "many", "pool", "made", "k", "at"]
theorem sc__law_text : FnScope N__law_text ["row", "spot", "many"] (defScope s__law_text) := ⟨rfl, rfl, rfl, by decide +kernel, rfl, by decide +kernel, by decide +kernel⟩
abbrev s__law_fates : Stmt := top 25
abbrev N__law_fates : List Str := ["row", "spot", "many", "made", "k", "kind"]
theorem sc__law_fates : FnScope N__law_fates ["row", "spot", "many"] (defScope s__law_fates) := ⟨rfl, rfl, rfl, by decide +kernel, rfl, by decide +kernel, by decide +kernel⟩
abbrev s__law_done : Stmt := top 26
abbrev N__law_done : List Str := ["disk", "kind", "cell", "text"]
theorem sc__law_done : FnScope N__law_done ["disk", "kind", "cell", "text"] (defScope s__law_done) := ⟨rfl, rfl, rfl, by decide +kernel, rfl, by decide +kernel, by decide +kernel⟩
abbrev s__law_off_at : Stmt := top 27
abbrev N__law_off_at : List Str := ["disk", "name", "value", "wrong"]
theorem sc__law_off_at : FnScope N__law_off_at ["disk", "name", "value"] (defScope s__law_off_at) := ⟨rfl, rfl, rfl, by decide +kernel, rfl, by decide +kernel, by decide +kernel⟩
abbrev s_law : Stmt := top 28
abbrev N_law : List Str := ["script", "row", "spot", "disk", "cells", "waiting", "again", "left", "bad", "fates", "down", "made", "k", "kind", "way", "cell", "text", "one", "fate"]
theorem sc_law : FnScope N_law ["script"] (defScope s_law) := ⟨rfl, rfl, rfl, by decide +kernel, rfl, by decide +kernel, by decide +kernel⟩
structure Txt (K : PySem.W.Frag) (mg : Str → Option Value) (C_Crashed : Addr) (C_Disk : Addr) (tk_GREATEST_FATE : Tok) (tk_LAST_CELL : Tok) (tk_MOST_CHARACTERS : Tok) (tk_MOST_FATES : Tok) (tk_MOST_STEPS : Tok) (C_BadValue fI_BadValue : Addr) : Prop where
  n_Crashed : Tx0 K mg "Crashed" C_Crashed
  c_GREATEST_FATE : mg "GREATEST_FATE" = some (.int 10000 tk_GREATEST_FATE)
  c_LAST_CELL : mg "LAST_CELL" = some (.int 1000000 tk_LAST_CELL)
  c_MOST_CHARACTERS : mg "MOST_CHARACTERS" = some (.int 2000 tk_MOST_CHARACTERS)
  c_MOST_FATES : mg "MOST_FATES" = some (.int 10000 tk_MOST_FATES)
  c_MOST_STEPS : mg "MOST_STEPS" = some (.int 1000000 tk_MOST_STEPS)
  e_BadValue : Eat.Tx K mg "BadValue" "BadValue.__init__" C_BadValue fI_BadValue
  x_Crashed_Crashed : PySem.W.exmOne K (.ref C_Crashed) (.ref C_Crashed) = some true
  f_Disk_cells_read : NoAttr K C_Disk "_cells_read"
  f_Disk_cells_written : NoAttr K C_Disk "_cells_written"
  f_Disk_durable : NoAttr K C_Disk "_durable"
  f_Disk_is_down : NoAttr K C_Disk "_is_down"
  f_Disk_shown : NoAttr K C_Disk "_shown"
  f_Disk_steps_left : NoAttr K C_Disk "_steps_left"
  f_Disk_waiting : NoAttr K C_Disk "_waiting"
  b_all : mg "all" = none
  b_bool : mg "bool" = none
  b_dict : mg "dict" = none
  b_int : mg "int" = none
  b_isinstance : mg "isinstance" = none
  b_len : mg "len" = none
  b_list : mg "list" = none
  b_max : mg "max" = none
  b_range : mg "range" = none
  b_str : mg "str" = none
  b_tuple : mg "tuple" = none
  b_zip : mg "zip" = none
  o_Disk : Cls K C_Disk
section
variable {P : Program} {w : World} {K : PySem.W.Frag} {mg : Str → Option Value} {base : Heap} {C_Crashed : Addr} {C_Disk : Addr} {tk_GREATEST_FATE : Tok} {tk_LAST_CELL : Tok} {tk_MOST_CHARACTERS : Tok} {tk_MOST_FATES : Tok} {tk_MOST_STEPS : Tok} {C_BadValue fI_BadValue : Addr}
def t_is_integer (K : PySem.W.Frag) : TS := (tRet (tAndV (tCB (rIsi K) (tCons (tVar 0) (tCons (tC (.ty "int")) tNil))) (tNotV (tCB (rIsi K) (tCons (tVar 0) (tCons (tC (.ty "bool")) tNil))))))
theorem d_is_integer {E : XK} {f : Addr} {A : Around} {outer : List Env} {s : Shared} {H : Hp} {cdv : Value} (hr : Room 0 (A.deeper (PyProof.Rows.envOfC "is_integer" (defScope s_is_integer) s.heap.objs.size f cdv))) (T : Txt K mg C_Crashed C_Disk tk_GREATEST_FATE tk_LAST_CELL tk_MOST_CHARACTERS tk_MOST_FATES tk_MOST_STEPS C_BadValue fI_BadValue)  :
    PSs (cxOf CX0 P w K mg base N_is_integer "is_integer" (defScope s_is_integer) f cdv A outer s H E).nox (defBody s_is_integer) (t_is_integer K) :=
  (pss_one (ps_ret (pe_and (pe_callB call_isi (by rfl) T.b_isinstance (by decide +kernel) (pa_cons (pv 0) (pa_cons (pe_bltn (v := .ty "int") (by rfl) T.b_int (by decide +kernel) rfl) pa_nil))) (pe_one (pe_not (pe_callB call_isi (by rfl) T.b_isinstance (by decide +kernel) (pa_cons (pv 0) (pa_cons (pe_bltn (v := .ty "bool") (by rfl) T.b_bool (by decide +kernel) rfl) pa_nil))))))))

def t_is_sequence (K : PySem.W.Frag) : TS := (tRet (tCB (rIsiT K) (tCons (tVar 0) (tCons (tTup (tCons (tC (.ty "list")) (tCons (tC (.ty "tuple")) tNil))) tNil))))
theorem d_is_sequence {E : XK} {f : Addr} {A : Around} {outer : List Env} {s : Shared} {H : Hp} {cdv : Value} (hr : Room 0 (A.deeper (PyProof.Rows.envOfC "is_sequence" (defScope s_is_sequence) s.heap.objs.size f cdv))) (T : Txt K mg C_Crashed C_Disk tk_GREATEST_FATE tk_LAST_CELL tk_MOST_CHARACTERS tk_MOST_FATES tk_MOST_STEPS C_BadValue fI_BadValue)  :
    PSs (cxOf CX0 P w K mg base N_is_sequence "is_sequence" (defScope s_is_sequence) f cdv A outer s H E).nox (defBody s_is_sequence) (t_is_sequence K) :=
  (pss_one (ps_ret (pe_callB call_isiT (by rfl) T.b_isinstance (by decide +kernel) (pa_cons (pv 0) (pa_cons (pe_tup (pa_cons (pe_bltn (v := .ty "list") (by rfl) T.b_list (by decide +kernel) rfl) (pa_cons (pe_bltn (v := .ty "tuple") (by rfl) T.b_tuple (by decide +kernel) rfl) pa_nil))) pa_nil)))))

def t_is_within (K : PySem.W.Frag) (sp_is_integer_ : Sp) : TS := (tRet (tAndV (tCallO sp_is_integer_ (tCons (tVar 0) tNil)) (tChain rLe rLe (tVar 1) (tVar 0) (tVar 2))))
theorem d_is_within {sp_is_integer_ : Sp} {E : XK} {f : Addr} {A : Around} {outer : List Env} {s : Shared} {H : Hp} {cdv : Value} (hr : Room 1 (A.deeper (PyProof.Rows.envOfC "is_within" (defScope s_is_within) s.heap.objs.size f cdv))) (T : Txt K mg C_Crashed C_Disk tk_GREATEST_FATE tk_LAST_CELL tk_MOST_CHARACTERS tk_MOST_FATES tk_MOST_STEPS C_BadValue fI_BadValue) (O_is_integer : Ok P w K mg base 1 "is_integer" ["value"] (sp_is_integer_)) :
    PSs (cxOf CX0 P w K mg base N_is_within "is_within" (defScope s_is_within) f cdv A outer s H E).nox (defBody s_is_within) (t_is_within K sp_is_integer_) :=
  (pss_one (ps_ret (pe_and (pe_cO O_is_integer (hr.mono (by decide)) rfl (pa_cons (pv 0) pa_nil)) (pe_one (pe_chain o_le o_le (pv 1) (pv 0) (pv 2))))))

def t_is_cell (K : PySem.W.Frag) (sp_is_within_ : Sp) : TS := (tRet (tCallO sp_is_within_ (tCons (tVar 0) (tCons (tC (.int 0)) (tCons (tC (.int 1000000)) tNil)))))
theorem d_is_cell {sp_is_within_ : Sp} {E : XK} {f : Addr} {A : Around} {outer : List Env} {s : Shared} {H : Hp} {cdv : Value} (hr : Room 2 (A.deeper (PyProof.Rows.envOfC "is_cell" (defScope s_is_cell) s.heap.objs.size f cdv))) (T : Txt K mg C_Crashed C_Disk tk_GREATEST_FATE tk_LAST_CELL tk_MOST_CHARACTERS tk_MOST_FATES tk_MOST_STEPS C_BadValue fI_BadValue) (O_is_within : Ok P w K mg base 2 "is_within" ["value", "least", "most"] (sp_is_within_)) :
    PSs (cxOf CX0 P w K mg base N_is_cell "is_cell" (defScope s_is_cell) f cdv A outer s H E).nox (defBody s_is_cell) (t_is_cell K sp_is_within_) :=
  (pss_one (ps_ret (pe_cO O_is_within (hr.mono (by decide)) rfl (pa_cons (pv 0) (pa_cons pe_int (pa_cons (pe_glob rfl T.c_LAST_CELL ⟨_, rfl⟩) pa_nil))))))

def t_is_cell_text (K : PySem.W.Frag) : TS := (tSeq (tIfS (tOr (tNot (tB (tCB (rIsi K) (tCons (tVar 0) (tCons (tC (.ty "str")) tNil))))) (tTest (tOp rGt (tCB rLenS (tCons (tVar 0) tNil)) (tC (.int 2000))))) (tRet (tC (.bl false))) tNext)
    (tSeq (tAsg (tBM K "str" rTrans (tVar 0) (tCons (tDisp [((tC (.int 10)), (tC .non)), ((tC (.int 37)), (tC (.str "
")))]) tNil)) (gName 1))
    (tRet (tAndV (tBM0 K "str" rAscii (tVar 1)) (tBM0 K "str" rPrintable (tVar 1))))))
theorem d_is_cell_text {E : XK} {f : Addr} {A : Around} {outer : List Env} {s : Shared} {H : Hp} {cdv : Value} (hr : Room 0 (A.deeper (PyProof.Rows.envOfC "is_cell_text" (defScope s_is_cell_text) s.heap.objs.size f cdv))) (T : Txt K mg C_Crashed C_Disk tk_GREATEST_FATE tk_LAST_CELL tk_MOST_CHARACTERS tk_MOST_FATES tk_MOST_STEPS C_BadValue fI_BadValue)  :
    PSs (cxOf CX0 P w K mg base N_is_cell_text "is_cell_text" (defScope s_is_cell_text) f cdv A outer s H E).nox (defBody s_is_cell_text) (t_is_cell_text K) :=
  (pss_cons (ps_if (PW.pt (pw_or (pt_not (pt_val (pe_callB call_isi (by rfl) T.b_isinstance (by decide +kernel) (pa_cons (pv 0) (pa_cons (pe_bltn (v := .ty "str") (by rfl) T.b_str (by decide +kernel) rfl) pa_nil))))) (pw_or1 (pt_cmpR o_gt (pe_callB c_lenS (by rfl) T.b_len (by decide +kernel) (pa_cons (pv 0) pa_nil)) (pe_glob rfl T.c_MOST_CHARACTERS ⟨_, rfl⟩) (nomark _))))) (pss_one (ps_ret pe_bl)) pss_nil)
    (pss_cons (ps_set (i := 1) sc_is_cell_text.nd rfl (Or.inl rfl) (pe_bm PySem.F.plainAttrs_str PySem.F.slot_str_translate PySem.F.type_str_translate (mt_trans rfl) (pv 0) (pa_cons (pe_disp (pps_cons pe_int pe_non (pps_cons pe_int pe_str pps_nil)) rfl rfl (by simp) (by decide)) pa_nil)))
    (pss_one (ps_ret (pe_and (pe_bm0 PySem.F.plainAttrs_str PySem.F.slot_str_isascii PySem.F.type_str_isascii mt_ascii (pv 1)) (pe_one (pe_bm0 PySem.F.plainAttrs_str PySem.F.slot_str_isprintable PySem.F.type_str_isprintable mt_printable (pv 1))))))))

def t_are_fates (K : PySem.W.Frag) (sp_is_sequence_ : Sp) (sp_is_within_ : Sp) : TS := (tSeq (tIfS (tOr (tNot (tB (tCallO sp_is_sequence_ (tCons (tVar 0) tNil)))) (tTest (tOp rGt (tCB (rLen K) (tCons (tVar 0) tNil)) (tC (.int 10000))))) (tRet (tC (.bl false))) tNext)
    (tRet (tCB (rAll K) (tCons (tLc (iX K (tVar 0)) (gName 1) tYes (tCallO sp_is_within_ (tCons (tVar 1) (tCons (tC (.int 0)) (tCons (tC (.int 10000)) tNil)))) [1]) tNil))))
theorem d_are_fates {sp_is_sequence_ : Sp} {sp_is_within_ : Sp} {E : XK} {f : Addr} {A : Around} {outer : List Env} {s : Shared} {H : Hp} {cdv : Value} (hr : Room 2 (A.deeper (PyProof.Rows.envOfC "are_fates" (defScope s_are_fates) s.heap.objs.size f cdv))) (T : Txt K mg C_Crashed C_Disk tk_GREATEST_FATE tk_LAST_CELL tk_MOST_CHARACTERS tk_MOST_FATES tk_MOST_STEPS C_BadValue fI_BadValue) (O_is_sequence : Ok P w K mg base 1 "is_sequence" ["value"] (sp_is_sequence_)) (O_is_within : Ok P w K mg base 2 "is_within" ["value", "least", "most"] (sp_is_within_)) :
    PSs (cxOf CX0 P w K mg base N_are_fates "are_fates" (defScope s_are_fates) f cdv A outer s H E).nox (defBody s_are_fates) (t_are_fates K sp_is_sequence_ sp_is_within_) :=
  (pss_cons (ps_if (PW.pt (pw_or (pt_not (pt_val (pe_cO O_is_sequence (hr.mono (by decide)) rfl (pa_cons (pv 0) pa_nil)))) (pw_or1 (pt_cmpR o_gt (pe_callB c_len (by rfl) T.b_len (by decide +kernel) (pa_cons (pv 0) pa_nil)) (pe_glob rfl T.c_MOST_FATES ⟨_, rfl⟩) (nomark _))))) (pss_one (ps_ret pe_bl)) pss_nil)
    (pss_one (ps_ret (pe_callB (cr_all rfl) (by rfl) T.b_all (by decide +kernel) (pa_cons (pe_lc (own := [("fate", 1)]) (g := (gName 1)) (tt := tYes) (te := (tCallO sp_is_within_ (tCons (tVar 1) (tCons (tC (.int 0)) (tCons (tC (.int 10000)) tNil))))) rfl sc_are_fates.nd (pi_X (pv 0)) (blkOk_by (N := N_are_fates) (sc := defScope s_are_fates) (own := [("fate", 1)]) (by decide +kernel)) (fun _ _ _ _ _ => (pg_name (i := 1) sc_are_fates.nd rfl (Or.inl rfl))) (fun _ _ _ _ _ => pts_nil) (fun _ _ _ _ _ => (pe_cO O_is_within (hr.mono (by decide)) rfl (pa_cons (pv 1) (pa_cons pe_int (pa_cons (pe_glob rfl T.c_GREATEST_FATE ⟨_, rfl⟩) pa_nil)))))) pa_nil)))))

def t_Disk____init__ (K : PySem.W.Frag) (C_Disk : Addr) : TS := (tSeq (sFld K (tVar 0) tDNewK "_durable")
    (tSeq (sFld K (tVar 0) tDNewK "_shown")
    (tSeq (sFld K (tVar 0) (tLst tNil) "_waiting")
    (tSeq (sFld K (tVar 0) (tC .non) "_steps_left")
    (tSeq (sFld K (tVar 0) (tC (.bl false)) "_is_down")
    (tSeq (sFld K (tVar 0) (tLst tNil) "_cells_read")
    (sFld K (tVar 0) (tLst tNil) "_cells_written")))))))
theorem d_Disk____init__ {E : XK} {f : Addr} {A : Around} {outer : List Env} {s : Shared} {H : Hp} {cdv : Value} (hr : Room 0 (A.deeper (PyProof.Rows.envOfC "Disk.__init__" (defScope s_Disk____init__) s.heap.objs.size f cdv))) (T : Txt K mg C_Crashed C_Disk tk_GREATEST_FATE tk_LAST_CELL tk_MOST_CHARACTERS tk_MOST_FATES tk_MOST_STEPS C_BadValue fI_BadValue)  :
    PSs (cxOf CX0 P w K mg base N_Disk____init__ "Disk.__init__" (defScope s_Disk____init__) f cdv A outer s H E).nox (defBody s_Disk____init__) (t_Disk____init__ K C_Disk) :=
  (pss_cons (ps_fld (pv 0) pe_dnewK rfl)
    (pss_cons (ps_fld (pv 0) pe_dnewK rfl)
    (pss_cons (ps_fld (pv 0) (pe_lst pa_nil) rfl)
    (pss_cons (ps_fld (pv 0) pe_non rfl)
    (pss_cons (ps_fld (pv 0) pe_bl rfl)
    (pss_cons (ps_fld (pv 0) (pe_lst pa_nil) rfl)
    (pss_one (ps_fld (pv 0) (pe_lst pa_nil) rfl))))))))

def t_Disk___step (K : PySem.W.Frag) (C_Disk : Addr) (C_Crashed : Addr) (E : XK) : TS := (tCut (tIfS (tTest (tOp (rEqX K) (tFld K (tVar 0) "_steps_left") (tC (.int 0)))) (sFld K (tVar 0) (tC (.bl true)) "_is_down") tNext)
    (tSeq (tIfS (tB (tFld K (tVar 0) "_is_down")) (tRaise0 C_Crashed (fun cls d _ H => E cls d H)) tNext)
    (tIfS (tTest (tOp rNotNon (tFld K (tVar 0) "_steps_left") (tC .non))) (sFld K (tVar 0) (tOp rSub (tFld K (tVar 0) "_steps_left") (tC (.int 1))) "_steps_left") tNext)))
theorem d_Disk___step {E : XK} {f : Addr} {A : Around} {outer : List Env} {s : Shared} {H : Hp} {cdv : Value} (hr : Room 2 (A.deeper (PyProof.Rows.envOfC "Disk._step" (defScope s_Disk___step) s.heap.objs.size f cdv))) (T : Txt K mg C_Crashed C_Disk tk_GREATEST_FATE tk_LAST_CELL tk_MOST_CHARACTERS tk_MOST_FATES tk_MOST_STEPS C_BadValue fI_BadValue)  :
    PSs (cxOf (L2.CX P w) P w K mg base N_Disk___step "Disk._step" (defScope s_Disk___step) f cdv A outer s H E) (defBody s_Disk___step) (t_Disk___step K C_Disk C_Crashed E) :=
  (pss_cut (ps_if (pt_cmpR (op_eqX hr.units) (pe_fld (pv 0) rfl) pe_int (nomark _)) (pss_one (ps_fld (pv 0) pe_bl rfl)) pss_nil)
    (pss_cons (ps_if (pt_val (pe_fld (pv 0) rfl)) (pss_one (ps_raise0 rfl T.n_Crashed (takes_of rfl rfl rfl rfl) rfl)) pss_nil)
    (pss_one (ps_if (pt_cmpR o_notN (pe_fld (pv 0) rfl) pe_non (nomark _)) (pss_one (ps_fld (pv 0) (pe_op o_sub (pe_fld (pv 0) rfl) pe_int) rfl)) pss_nil))))

def t_Disk__write (K : PySem.W.Frag) (C_BadValue : Addr) (C_Disk : Addr) (E : XK) (sp_Disk___step_ : Sp) (sp_is_cell_ : Sp) (sp_is_cell_text_ : Sp) : TS := (tSeq (tIfS (tNot (tB (tCallO sp_is_cell_ (tCons (tVar 1) tNil)))) (Eat.tRaise C_BadValue (fun cls d _ H => E cls d H) (tCons (tC (.int 0)) tNil)) tNext)
    (tSeq (tIfS (tNot (tB (tCallO sp_is_cell_text_ (tCons (tVar 2) tNil)))) (Eat.tRaise C_BadValue (fun cls d _ H => E cls d H) (tCons (tC (.int 1)) tNil)) tNext)
    (tSeq (tDrop (tM C_Disk "_step" sp_Disk___step_ (WE (fun cls d _ H => E cls d H)) (tVar 0) tNil))
    (tSeq (tDrop (tBM K "list" rAppend (tFld K (tVar 0) "_waiting") (tCons (tTup (tCons (tVar 1) (tCons (tVar 2) tNil))) tNil)))
    (tSeq (tAsg (tVar 2) (gSub (tFld K (tVar 0) "_shown") (tVar 1) rSetD))
    (tDrop (tBM K "list" rAppend (tFld K (tVar 0) "_cells_written") (tCons (tVar 1) tNil))))))))
theorem d_Disk__write {sp_Disk___step_ : Sp} {sp_is_cell_ : Sp} {sp_is_cell_text_ : Sp} {E : XK} {f : Addr} {A : Around} {outer : List Env} {s : Shared} {H : Hp} {cdv : Value} (hr : Room 3 (A.deeper (PyProof.Rows.envOfC "Disk.write" (defScope s_Disk__write) s.heap.objs.size f cdv))) (T : Txt K mg C_Crashed C_Disk tk_GREATEST_FATE tk_LAST_CELL tk_MOST_CHARACTERS tk_MOST_FATES tk_MOST_STEPS C_BadValue fI_BadValue) (O_Disk___step : OkM (L2.CX P w) P w K mg base 3 C_Disk "_step" ["self"] (sp_Disk___step_)) (O_is_cell : Ok P w K mg base 3 "is_cell" ["value"] (sp_is_cell_)) (O_is_cell_text : Ok P w K mg base 1 "is_cell_text" ["value"] (sp_is_cell_text_)) :
    PSs (cxOf (L2.CX P w) P w K mg base N_Disk__write "Disk.write" (defScope s_Disk__write) f cdv A outer s H E) (defBody s_Disk__write) (t_Disk__write K C_BadValue C_Disk E sp_Disk___step_ sp_is_cell_ sp_is_cell_text_) :=
  (pss_cons (ps_if (pt_not (pt_val (pe_cO O_is_cell (hr.mono (by decide)) rfl (pa_cons (pv 1) pa_nil)))) (pss_one (Eat.ps rfl T.e_BadValue hr (takes_of rfl rfl rfl rfl) (pa_cons pe_int pa_nil) rfl)) pss_nil)
    (pss_cons (ps_if (pt_not (pt_val (pe_cO O_is_cell_text (hr.mono (by decide)) rfl (pa_cons (pv 2) pa_nil)))) (pss_one (Eat.ps rfl T.e_BadValue hr (takes_of rfl rfl rfl rfl) (pa_cons pe_int pa_nil) rfl)) pss_nil)
    (pss_cons (ps_expr (pe_m0 T.o_Disk O_Disk___step (hr.mono (by decide)) (goL (takes_of rfl rfl rfl rfl)) (pv 0)))
    (pss_cons (ps_expr (pe_bm PySem.F.plainAttrs_list PySem.F.slot_list_append PySem.F.type_list_append mt_append (pe_fld (pv 0) rfl) (pa_cons (pe_tup (pa_cons (pv 1) (pa_cons (pv 2) pa_nil))) pa_nil)))
    (pss_cons (ps_asg (pv 2) (pg_sub (pe_fld (pv 0) rfl) (pv 1) (set_dict (hu_of hr))))
    (pss_one (ps_expr (pe_bm PySem.F.plainAttrs_list PySem.F.slot_list_append PySem.F.type_list_append mt_append (pe_fld (pv 0) rfl) (pa_cons (pv 1) pa_nil)))))))))

def t_Disk__read (K : PySem.W.Frag) (C_BadValue : Addr) (C_Disk : Addr) (C_Crashed : Addr) (E : XK) (sp_is_cell_ : Sp) : TS := (tSeq (tIfS (tNot (tB (tCallO sp_is_cell_ (tCons (tVar 1) tNil)))) (Eat.tRaise C_BadValue (fun cls d _ H => E cls d H) (tCons (tC (.int 0)) tNil)) tNext)
    (tSeq (tIfS (tB (tFld K (tVar 0) "_is_down")) (tRaise0 C_Crashed (fun cls d _ H => E cls d H)) tNext)
    (tSeq (tDrop (tBM K "list" rAppend (tFld K (tVar 0) "_cells_read") (tCons (tVar 1) tNil)))
    (tRet (tDGet2 (tFld K (tVar 0) "_shown") (tVar 1) (tC (.str "")))))))
theorem d_Disk__read {sp_is_cell_ : Sp} {E : XK} {f : Addr} {A : Around} {outer : List Env} {s : Shared} {H : Hp} {cdv : Value} (hr : Room 3 (A.deeper (PyProof.Rows.envOfC "Disk.read" (defScope s_Disk__read) s.heap.objs.size f cdv))) (T : Txt K mg C_Crashed C_Disk tk_GREATEST_FATE tk_LAST_CELL tk_MOST_CHARACTERS tk_MOST_FATES tk_MOST_STEPS C_BadValue fI_BadValue) (O_is_cell : Ok P w K mg base 3 "is_cell" ["value"] (sp_is_cell_)) :
    PSs (cxOf (L2.CX P w) P w K mg base N_Disk__read "Disk.read" (defScope s_Disk__read) f cdv A outer s H E) (defBody s_Disk__read) (t_Disk__read K C_BadValue C_Disk C_Crashed E sp_is_cell_) :=
  (pss_cons (ps_if (pt_not (pt_val (pe_cO O_is_cell (hr.mono (by decide)) rfl (pa_cons (pv 1) pa_nil)))) (pss_one (Eat.ps rfl T.e_BadValue hr (takes_of rfl rfl rfl rfl) (pa_cons pe_int pa_nil) rfl)) pss_nil)
    (pss_cons (ps_if (pt_val (pe_fld (pv 0) rfl)) (pss_one (ps_raise0 rfl T.n_Crashed (takes_of rfl rfl rfl rfl) rfl)) pss_nil)
    (pss_cons (ps_expr (pe_bm PySem.F.plainAttrs_list PySem.F.slot_list_append PySem.F.type_list_append mt_append (pe_fld (pv 0) rfl) (pa_cons (pv 1) pa_nil)))
    (pss_one (ps_ret (pe_dget2 (hu_of hr) (pe_fld (pv 0) rfl) (pv 1) pe_str ⟨rfl, rfl, rfl, rfl⟩))))))

def t_Disk__sync (K : PySem.W.Frag) (C_Disk : Addr) (E : XK) (sp_Disk___step_ : Sp) : TS := (tSeq (tDrop (tM C_Disk "_step" sp_Disk___step_ (WE (fun cls d _ H => E cls d H)) (tVar 0) tNil))
    (tSeq (tFor (iX K (tFld K (tVar 0) "_waiting")) (gX K 2 (gCons (gName 1) (gCons (gName 2) gNil))) (tAsg (tVar 2) (gSub (tFld K (tVar 0) "_durable") (tVar 1) rSetD)))
    (sFld K (tVar 0) (tLst tNil) "_waiting")))
theorem d_Disk__sync {sp_Disk___step_ : Sp} {E : XK} {f : Addr} {A : Around} {outer : List Env} {s : Shared} {H : Hp} {cdv : Value} (hr : Room 3 (A.deeper (PyProof.Rows.envOfC "Disk.sync" (defScope s_Disk__sync) s.heap.objs.size f cdv))) (T : Txt K mg C_Crashed C_Disk tk_GREATEST_FATE tk_LAST_CELL tk_MOST_CHARACTERS tk_MOST_FATES tk_MOST_STEPS C_BadValue fI_BadValue) (O_Disk___step : OkM (L2.CX P w) P w K mg base 3 C_Disk "_step" ["self"] (sp_Disk___step_)) :
    PSs (cxOf (L2.CX P w) P w K mg base N_Disk__sync "Disk.sync" (defScope s_Disk__sync) f cdv A outer s H E) (defBody s_Disk__sync) (t_Disk__sync K C_Disk E sp_Disk___step_) :=
  (pss_cons (ps_expr (pe_m0 T.o_Disk O_Disk___step (hr.mono (by decide)) (goL (takes_of rfl rfl rfl rfl)) (pv 0)))
    (pss_cons (ps_for (passes_of rfl) rfl (pi_X (pe_fld (pv 0) rfl)) (pg_X rfl (pgs_cons (pg_name (i := 1) sc_Disk__sync.nd rfl (Or.inl rfl)) (pgs_cons (pg_name (i := 2) sc_Disk__sync.nd rfl (Or.inl rfl)) pgs_nil))) (pss_one (ps_asg (pv 2) (pg_sub (pe_fld (pv 0) rfl) (pv 1) (set_dict (hu_of hr))))))
    (pss_one (ps_fld (pv 0) (pe_lst pa_nil) rfl))))

def t_Disk__pending (K : PySem.W.Frag) (C_Disk : Addr) : TS := (tRet (tCB (rLen K) (tCons (tFld K (tVar 0) "_waiting") tNil)))
theorem d_Disk__pending {E : XK} {f : Addr} {A : Around} {outer : List Env} {s : Shared} {H : Hp} {cdv : Value} (hr : Room 0 (A.deeper (PyProof.Rows.envOfC "Disk.pending" (defScope s_Disk__pending) s.heap.objs.size f cdv))) (T : Txt K mg C_Crashed C_Disk tk_GREATEST_FATE tk_LAST_CELL tk_MOST_CHARACTERS tk_MOST_FATES tk_MOST_STEPS C_BadValue fI_BadValue)  :
    PSs (cxOf CX0 P w K mg base N_Disk__pending "Disk.pending" (defScope s_Disk__pending) f cdv A outer s H E).nox (defBody s_Disk__pending) (t_Disk__pending K C_Disk) :=
  (pss_one (ps_ret (pe_callB c_len (by rfl) T.b_len (by decide +kernel) (pa_cons (pe_fld (pv 0) rfl) pa_nil))))

def t_Disk__limit (K : PySem.W.Frag) (C_BadValue : Addr) (C_Disk : Addr) (E : XK) (sp_is_within_ : Sp) : TS := (tSeq (tIfS (tNot (tB (tCallO sp_is_within_ (tCons (tVar 1) (tCons (tC (.int 0)) (tCons (tC (.int 1000000)) tNil)))))) (Eat.tRaise C_BadValue (fun cls d _ H => E cls d H) (tCons (tC (.int 0)) tNil)) tNext)
    (sFld K (tVar 0) (tVar 1) "_steps_left"))
theorem d_Disk__limit {sp_is_within_ : Sp} {E : XK} {f : Addr} {A : Around} {outer : List Env} {s : Shared} {H : Hp} {cdv : Value} (hr : Room 2 (A.deeper (PyProof.Rows.envOfC "Disk.limit" (defScope s_Disk__limit) s.heap.objs.size f cdv))) (T : Txt K mg C_Crashed C_Disk tk_GREATEST_FATE tk_LAST_CELL tk_MOST_CHARACTERS tk_MOST_FATES tk_MOST_STEPS C_BadValue fI_BadValue) (O_is_within : Ok P w K mg base 2 "is_within" ["value", "least", "most"] (sp_is_within_)) :
    PSs (cxOf (L2.CX P w) P w K mg base N_Disk__limit "Disk.limit" (defScope s_Disk__limit) f cdv A outer s H E) (defBody s_Disk__limit) (t_Disk__limit K C_BadValue C_Disk E sp_is_within_) :=
  (pss_cons (ps_if (pt_not (pt_val (pe_cO O_is_within (hr.mono (by decide)) rfl (pa_cons (pv 1) (pa_cons pe_int (pa_cons (pe_glob rfl T.c_MOST_STEPS ⟨_, rfl⟩) pa_nil)))))) (pss_one (Eat.ps rfl T.e_BadValue hr (takes_of rfl rfl rfl rfl) (pa_cons pe_int pa_nil) rfl)) pss_nil)
    (pss_one (ps_fld (pv 0) (pv 1) rfl)))

def t_Disk__restart (K : PySem.W.Frag) (C_BadValue : Addr) (C_Disk : Addr) (E : XK) (sp_are_fates_ : Sp) : TS := (tSeq (tIfS (tNot (tB (tCallO sp_are_fates_ (tCons (tVar 1) tNil)))) (Eat.tRaise C_BadValue (fun cls d _ H => E cls d H) (tCons (tC (.int 0)) tNil)) tNext)
    (tSeq (tFor (iZx K (tCons (tFld K (tVar 0) "_waiting") (tCons (tVar 1) tNil))) (gX K 2 (gCons (gX K 2 (gCons (gName 2) (gCons (gName 3) gNil))) (gCons (gName 4) gNil))) (tAsg (tOp rAddStr (tSl rSlS (tVar 3) tNoPart (tPart (tVar 4))) (tSl rSlS (tDGet2 (tFld K (tVar 0) "_durable") (tVar 2) (tC (.str ""))) (tPart (tVar 4)) tNoPart)) (gSub (tFld K (tVar 0) "_durable") (tVar 2) rSetD)))
    (tSeq (sFld K (tVar 0) (tCB rDictD (tCons (tFld K (tVar 0) "_durable") tNil)) "_shown")
    (tSeq (sFld K (tVar 0) (tLst tNil) "_waiting")
    (tSeq (sFld K (tVar 0) (tC .non) "_steps_left")
    (sFld K (tVar 0) (tC (.bl false)) "_is_down"))))))
theorem d_Disk__restart {sp_are_fates_ : Sp} {E : XK} {f : Addr} {A : Around} {outer : List Env} {s : Shared} {H : Hp} {cdv : Value} (hr : Room 3 (A.deeper (PyProof.Rows.envOfC "Disk.restart" (defScope s_Disk__restart) s.heap.objs.size f cdv))) (T : Txt K mg C_Crashed C_Disk tk_GREATEST_FATE tk_LAST_CELL tk_MOST_CHARACTERS tk_MOST_FATES tk_MOST_STEPS C_BadValue fI_BadValue) (O_are_fates : Ok P w K mg base 3 "are_fates" ["value"] (sp_are_fates_)) :
    PSs (cxOf (L2.CX P w) P w K mg base N_Disk__restart "Disk.restart" (defScope s_Disk__restart) f cdv A outer s H E) (defBody s_Disk__restart) (t_Disk__restart K C_BadValue C_Disk E sp_are_fates_) :=
  (pss_cons (ps_if (pt_not (pt_val (pe_cO O_are_fates (hr.mono (by decide)) rfl (pa_cons (pv 1) pa_nil)))) (pss_one (Eat.ps rfl T.e_BadValue hr (takes_of rfl rfl rfl rfl) (pa_cons pe_int pa_nil) rfl)) pss_nil)
    (pss_cons (ps_for (passes_of rfl) rfl (pi_zx (by rfl) T.b_zip (pa_cons (pe_fld (pv 0) rfl) (pa_cons (pv 1) pa_nil))) (pg_X rfl (pgs_cons (pg_X rfl (pgs_cons (pg_name (i := 2) sc_Disk__restart.nd rfl (Or.inl rfl)) (pgs_cons (pg_name (i := 3) sc_Disk__restart.nd rfl (Or.inl rfl)) pgs_nil))) (pgs_cons (pg_name (i := 4) sc_Disk__restart.nd rfl (Or.inl rfl)) pgs_nil))) (pss_one (ps_asg (pe_op op_addStr (pe_slice sl_str (pv 3) po_none (po_some (pv 4))) (pe_slice sl_str (pe_dget2 (hu_of hr) (pe_fld (pv 0) rfl) (pv 2) pe_str ⟨rfl, rfl, rfl, rfl⟩) (po_some (pv 4)) po_none)) (pg_sub (pe_fld (pv 0) rfl) (pv 2) (set_dict (hu_of hr))))))
    (pss_cons (ps_fld (pv 0) (pe_callTy c_dictD (by rfl) T.b_dict (by decide +kernel) (pa_cons (pe_fld (pv 0) rfl) pa_nil)) rfl)
    (pss_cons (ps_fld (pv 0) (pe_lst pa_nil) rfl)
    (pss_cons (ps_fld (pv 0) pe_non rfl)
    (pss_one (ps_fld (pv 0) pe_bl rfl)))))))

def t_Disk__writes (K : PySem.W.Frag) (C_Disk : Addr) : TS := (tRet (tCB (rTupOf K) (tCons (tFld K (tVar 0) "_cells_written") tNil)))
theorem d_Disk__writes {E : XK} {f : Addr} {A : Around} {outer : List Env} {s : Shared} {H : Hp} {cdv : Value} (hr : Room 0 (A.deeper (PyProof.Rows.envOfC "Disk.writes" (defScope s_Disk__writes) s.heap.objs.size f cdv))) (T : Txt K mg C_Crashed C_Disk tk_GREATEST_FATE tk_LAST_CELL tk_MOST_CHARACTERS tk_MOST_FATES tk_MOST_STEPS C_BadValue fI_BadValue)  :
    PSs (cxOf CX0 P w K mg base N_Disk__writes "Disk.writes" (defScope s_Disk__writes) f cdv A outer s H E).nox (defBody s_Disk__writes) (t_Disk__writes K C_Disk) :=
  (pss_one (ps_ret (pe_callTy c_tuple (by rfl) T.b_tuple (by decide +kernel) (pa_cons (pe_fld (pv 0) rfl) pa_nil))))

def t_Disk__forget (K : PySem.W.Frag) (C_Disk : Addr) : TS := (tSeq (sFld K (tVar 0) (tLst tNil) "_cells_read")
    (sFld K (tVar 0) (tLst tNil) "_cells_written"))
theorem d_Disk__forget {E : XK} {f : Addr} {A : Around} {outer : List Env} {s : Shared} {H : Hp} {cdv : Value} (hr : Room 0 (A.deeper (PyProof.Rows.envOfC "Disk.forget" (defScope s_Disk__forget) s.heap.objs.size f cdv))) (T : Txt K mg C_Crashed C_Disk tk_GREATEST_FATE tk_LAST_CELL tk_MOST_CHARACTERS tk_MOST_FATES tk_MOST_STEPS C_BadValue fI_BadValue)  :
    PSs (cxOf CX0 P w K mg base N_Disk__forget "Disk.forget" (defScope s_Disk__forget) f cdv A outer s H E).nox (defBody s_Disk__forget) (t_Disk__forget K C_Disk) :=
  (pss_cons (ps_fld (pv 0) (pe_lst pa_nil) rfl)
    (pss_one (ps_fld (pv 0) (pe_lst pa_nil) rfl)))

def t__law_so (K : PySem.W.Frag) (sp__law_so_ : Sp) : TS := (tSeq (tIfS (tTest (tOp rIsNon (tVar 1) (tC .non))) (tRet (tOp rIsNon (tVar 0) (tC .non))) tNext)
    (tSeq (tIfS (tB (tCB (rIsi K) (tCons (tVar 1) (tCons (tC (.ty "tuple")) tNil)))) (tSeq (tIfS (tOr (tNot (tB (tCB (rIsi K) (tCons (tVar 0) (tCons (tC (.ty "tuple")) tNil))))) (tTest (tOp (rNeX K) (tCB (rLen K) (tCons (tVar 0) tNil)) (tCB (rLen K) (tCons (tVar 1) tNil))))) (tRet (tC (.bl false))) tNext)
    (tSeq (tFor (iRng1 (tCons (tCB (rLen K) (tCons (tVar 1) tNil)) tNil)) (gName 2) (tIfS (tNot (tB (tCallO sp__law_so_ (tCons (tOp (rIxX K) (tVar 0) (tVar 2)) (tCons (tOp (rIxX K) (tVar 1) (tVar 2)) tNil))))) (tRet (tC (.bl false))) tNext))
    (tRet (tC (.bl true))))) tNext)
    (tSeq (tIfS (tOr (tB (tCB (rIsi K) (tCons (tVar 1) (tCons (tC (.ty "bool")) tNil)))) (tB (tCB (rIsi K) (tCons (tVar 0) (tCons (tC (.ty "bool")) tNil))))) (tRet (tAndV (tCB (rIsi K) (tCons (tVar 1) (tCons (tC (.ty "bool")) tNil))) (tAndV (tCB (rIsi K) (tCons (tVar 0) (tCons (tC (.ty "bool")) tNil))) (tOp (rEqX K) (tVar 0) (tVar 1))))) tNext)
    (tSeq (tIfS (tB (tCB (rIsi K) (tCons (tVar 1) (tCons (tC (.ty "int")) tNil)))) (tRet (tAndV (tCB (rIsi K) (tCons (tVar 0) (tCons (tC (.ty "int")) tNil))) (tOp (rEqX K) (tVar 0) (tVar 1)))) tNext)
    (tRet (tAndV (tCB (rIsi K) (tCons (tVar 1) (tCons (tC (.ty "str")) tNil))) (tAndV (tCB (rIsi K) (tCons (tVar 0) (tCons (tC (.ty "str")) tNil))) (tOp (rEqX K) (tVar 0) (tVar 1)))))))))
theorem d__law_so {sp__law_so_ : Sp} {E : XK} {f : Addr} {A : Around} {outer : List Env} {s : Shared} {H : Hp} {cdv : Value} {k_ : Nat} (hr : Room k_ (A.deeper (PyProof.Rows.envOfC "_law_so" (defScope s__law_so) s.heap.objs.size f cdv))) (T : Txt K mg C_Crashed C_Disk tk_GREATEST_FATE tk_LAST_CELL tk_MOST_CHARACTERS tk_MOST_FATES tk_MOST_STEPS C_BadValue fI_BadValue) (O__law_so : Ok P w K mg base k_ "_law_so" ["found", "meant"] (sp__law_so_)) :
    PSs (cxOf CX0 P w K mg base N__law_so "_law_so" (defScope s__law_so) f cdv A outer s H E).nox (defBody s__law_so) (t__law_so K sp__law_so_) :=
  (pss_cons (ps_if (pt_cmpR o_isN (pv 1) pe_non (nomark _)) (pss_one (ps_ret (pe_cmpR o_isN (pv 0) pe_non (nomark _)))) pss_nil)
    (pss_cons (ps_if (pt_val (pe_callB call_isi (by rfl) T.b_isinstance (by decide +kernel) (pa_cons (pv 1) (pa_cons (pe_bltn (v := .ty "tuple") (by rfl) T.b_tuple (by decide +kernel) rfl) pa_nil)))) (pss_cons (ps_if (PW.pt (pw_or (pt_not (pt_val (pe_callB call_isi (by rfl) T.b_isinstance (by decide +kernel) (pa_cons (pv 0) (pa_cons (pe_bltn (v := .ty "tuple") (by rfl) T.b_tuple (by decide +kernel) rfl) pa_nil))))) (pw_or1 (pt_cmpR (op_neX hr.units) (pe_callB c_len (by rfl) T.b_len (by decide +kernel) (pa_cons (pv 0) pa_nil)) (pe_callB c_len (by rfl) T.b_len (by decide +kernel) (pa_cons (pv 1) pa_nil)) (nomark _))))) (pss_one (ps_ret pe_bl)) pss_nil)
    (pss_cons (ps_for PassesOwn.never rfl (pi_range1 (by rfl) T.b_range (pa_cons (pe_callB c_len (by rfl) T.b_len (by decide +kernel) (pa_cons (pv 1) pa_nil)) pa_nil)) (pg_name (i := 2) sc__law_so.nd rfl (Or.inl rfl)) (pss_one (ps_if (pt_not (pt_val (pe_cO O__law_so hr rfl (pa_cons (pe_ix ix_X (pv 0) (pv 2) (fun _ _ => rfl)) (pa_cons (pe_ix ix_X (pv 1) (pv 2) (fun _ _ => rfl)) pa_nil))))) (pss_one (ps_ret pe_bl)) pss_nil)))
    (pss_one (ps_ret pe_bl)))) pss_nil)
    (pss_cons (ps_if (PW.pt (pw_or (pt_val (pe_callB call_isi (by rfl) T.b_isinstance (by decide +kernel) (pa_cons (pv 1) (pa_cons (pe_bltn (v := .ty "bool") (by rfl) T.b_bool (by decide +kernel) rfl) pa_nil)))) (pw_or1 (pt_val (pe_callB call_isi (by rfl) T.b_isinstance (by decide +kernel) (pa_cons (pv 0) (pa_cons (pe_bltn (v := .ty "bool") (by rfl) T.b_bool (by decide +kernel) rfl) pa_nil))))))) (pss_one (ps_ret (pe_and (pe_callB call_isi (by rfl) T.b_isinstance (by decide +kernel) (pa_cons (pv 1) (pa_cons (pe_bltn (v := .ty "bool") (by rfl) T.b_bool (by decide +kernel) rfl) pa_nil))) (pe_and (pe_callB call_isi (by rfl) T.b_isinstance (by decide +kernel) (pa_cons (pv 0) (pa_cons (pe_bltn (v := .ty "bool") (by rfl) T.b_bool (by decide +kernel) rfl) pa_nil))) (pe_one (pe_cmpR (op_eqX hr.units) (pv 0) (pv 1) (nomark _))))))) pss_nil)
    (pss_cons (ps_if (pt_val (pe_callB call_isi (by rfl) T.b_isinstance (by decide +kernel) (pa_cons (pv 1) (pa_cons (pe_bltn (v := .ty "int") (by rfl) T.b_int (by decide +kernel) rfl) pa_nil)))) (pss_one (ps_ret (pe_and (pe_callB call_isi (by rfl) T.b_isinstance (by decide +kernel) (pa_cons (pv 0) (pa_cons (pe_bltn (v := .ty "int") (by rfl) T.b_int (by decide +kernel) rfl) pa_nil))) (pe_one (pe_cmpR (op_eqX hr.units) (pv 0) (pv 1) (nomark _)))))) pss_nil)
    (pss_one (ps_ret (pe_and (pe_callB call_isi (by rfl) T.b_isinstance (by decide +kernel) (pa_cons (pv 1) (pa_cons (pe_bltn (v := .ty "str") (by rfl) T.b_str (by decide +kernel) rfl) pa_nil))) (pe_and (pe_callB call_isi (by rfl) T.b_isinstance (by decide +kernel) (pa_cons (pv 0) (pa_cons (pe_bltn (v := .ty "str") (by rfl) T.b_str (by decide +kernel) rfl) pa_nil))) (pe_one (pe_cmpR (op_eqX hr.units) (pv 0) (pv 1) (nomark _)))))))))))

def t__law_numbers (K : PySem.W.Frag) : TS := (tSeq (tAsg (tLst tNil) (gName 1))
    (tSeq (tFor (iX K (tSl (rSlX K) (tVar 0) tNoPart (tPart (tC (.int 63))))) (gName 2) (tIfS (tTest (tOp rGe (tVar 2) (tOp rPow (tC (.int 10)) (tC (.int 18))))) (tSeq (tAsg (tVar 2) (gName 3))
    (tFor (iRng1 (tCons (tC (.int 60)) tNil)) (gName 4) (tSeq (tIfS (tTest (tOp (rEqX K) (tVar 3) (tC (.int 0)))) tBreak tNext)
    (tSeq (tDrop (tBM K "list" rAppend (tVar 1) (tCons (tOp rModI (tCB rIntO (tCons (tVar 3) tNil)) (tC (.int 997))) tNil)))
    (tAsg (tOp rFdv (tVar 3) (tC (.int 997))) (gName 3)))))) (tFor (iRng1 (tCons (tC (.int 4)) tNil)) (gName 4) (tSeq (tAsg (tOp rModI (tCB rIntO (tCons (tOp (rAddX K) (tOp (rAddX K) (tOp (rMulX K) (tVar 2) (tC (.int 48271))) (tOp (rMulX K) (tVar 4) (tC (.int 69621)))) (tC (.int 11))) tNil)) (tC (.int 2147483647))) (gName 5))
    (tDrop (tBM K "list" rAppend (tVar 1) (tCons (tOp rModI (tCB rIntO (tCons (tOp (rAddX K) (tOp (rMulX K) (tVar 5) (tC (.int 16807))) (tVar 4)) tNil)) (tC (.int 2147483629))) tNil)))))))
    (tCut (tIfS (tTest (tOp (rEqX K) (tCB (rLen K) (tCons (tVar 1) tNil)) (tC (.int 0)))) (tDrop (tBM K "list" rAppend (tVar 1) (tCons (tC (.int 0)) tNil))) tNext)
    (tRet (tVar 1)))))
theorem d__law_numbers {E : XK} {f : Addr} {A : Around} {outer : List Env} {s : Shared} {H : Hp} {cdv : Value} (hr : Room 0 (A.deeper (PyProof.Rows.envOfC "_law_numbers" (defScope s__law_numbers) s.heap.objs.size f cdv))) (T : Txt K mg C_Crashed C_Disk tk_GREATEST_FATE tk_LAST_CELL tk_MOST_CHARACTERS tk_MOST_FATES tk_MOST_STEPS C_BadValue fI_BadValue)  :
    PSs (cxOf CX0 P w K mg base N__law_numbers "_law_numbers" (defScope s__law_numbers) f cdv A outer s H E).nox (defBody s__law_numbers) (t__law_numbers K) :=
  (pss_cons (ps_set (i := 1) sc__law_numbers.nd rfl (Or.inl rfl) (pe_lst pa_nil))
    (pss_cons (ps_for PassesOwn.never rfl (pi_X (pe_slice sl_X (pv 0) po_none (po_some pe_int))) (pg_name (i := 2) sc__law_numbers.nd rfl (Or.inl rfl)) (pss_one (ps_if (pt_cmpR o_ge (pv 2) (pe_op o_pow pe_int pe_int) (nomark _)) (pss_cons (ps_set (i := 3) sc__law_numbers.nd rfl (Or.inl rfl) (pv 2))
    (pss_one (ps_for PassesOwn.never rfl (pi_range1 (by rfl) T.b_range (pa_cons pe_int pa_nil)) (pg_name (i := 4) sc__law_numbers.nd rfl (Or.inl rfl)) (pss_cons (ps_if (pt_cmpR (op_eqX hr.units) (pv 3) pe_int (nomark _)) (pss_one ps_break) pss_nil)
    (pss_cons (ps_expr (pe_bm PySem.F.plainAttrs_list PySem.F.slot_list_append PySem.F.type_list_append mt_append (pv 1) (pa_cons (pe_op o_mod (pe_callTy c_int (by rfl) T.b_int (by decide +kernel) (pa_cons (pv 3) pa_nil)) pe_int) pa_nil)))
    (pss_one (ps_set (i := 3) sc__law_numbers.nd rfl (Or.inl rfl) (pe_op o_fdiv (pv 3) pe_int)))))))) (pss_one (ps_for PassesOwn.never rfl (pi_range1 (by rfl) T.b_range (pa_cons pe_int pa_nil)) (pg_name (i := 4) sc__law_numbers.nd rfl (Or.inl rfl)) (pss_cons (ps_set (i := 5) sc__law_numbers.nd rfl (Or.inl rfl) (pe_op o_mod (pe_callTy c_int (by rfl) T.b_int (by decide +kernel) (pa_cons (pe_op op_addX (pe_op op_addX (pe_op op_mulX (pv 2) pe_int) (pe_op op_mulX (pv 4) pe_int)) pe_int) pa_nil)) pe_int))
    (pss_one (ps_expr (pe_bm PySem.F.plainAttrs_list PySem.F.slot_list_append PySem.F.type_list_append mt_append (pv 1) (pa_cons (pe_op o_mod (pe_callTy c_int (by rfl) T.b_int (by decide +kernel) (pa_cons (pe_op op_addX (pe_op op_mulX (pv 5) pe_int) (pv 4)) pa_nil)) pe_int) pa_nil))))))))))
    (pss_cut (ps_if (pt_cmpR (op_eqX hr.units) (pe_callB c_len (by rfl) T.b_len (by decide +kernel) (pa_cons (pv 1) pa_nil)) pe_int (nomark _)) (pss_one (ps_expr (pe_bm PySem.F.plainAttrs_list PySem.F.slot_list_append PySem.F.type_list_append mt_append (pv 1) (pa_cons pe_int pa_nil)))) pss_nil)
    (pss_one (ps_ret (pv 1))))))

def t__law_draw (K : PySem.W.Frag) : TS := (tSeq (tIfS (tTest (tOp rLt (tVar 1) (tCB (rLen K) (tCons (tVar 0) tNil)))) (tRet (tOp rModI (tCB rIntO (tCons (tOp (rIxX K) (tVar 0) (tVar 1)) tNil)) (tVar 2))) tNext)
    (tSeq (tAsg (tOp rModI (tCB rIntO (tCons (tOp (rAddX K) (tOp (rAddX K) (tOp (rMulX K) (tOp (rIxX K) (tVar 0) (tOp rModI (tCB rIntO (tCons (tVar 1) tNil)) (tCB (rLen K) (tCons (tVar 0) tNil)))) (tC (.int 40692))) (tOp (rMulX K) (tVar 1) (tC (.int 7919)))) (tC (.int 3))) tNil)) (tC (.int 2147483399))) (gName 3))
    (tRet (tOp rModI (tCB rIntO (tCons (tOp rModI (tCB rIntO (tCons (tOp (rAddX K) (tOp (rMulX K) (tVar 3) (tC (.int 48271))) (tVar 1)) tNil)) (tC (.int 2147483647))) tNil)) (tVar 2)))))
theorem d__law_draw {E : XK} {f : Addr} {A : Around} {outer : List Env} {s : Shared} {H : Hp} {cdv : Value} (hr : Room 0 (A.deeper (PyProof.Rows.envOfC "_law_draw" (defScope s__law_draw) s.heap.objs.size f cdv))) (T : Txt K mg C_Crashed C_Disk tk_GREATEST_FATE tk_LAST_CELL tk_MOST_CHARACTERS tk_MOST_FATES tk_MOST_STEPS C_BadValue fI_BadValue)  :
    PSs (cxOf CX0 P w K mg base N__law_draw "_law_draw" (defScope s__law_draw) f cdv A outer s H E).nox (defBody s__law_draw) (t__law_draw K) :=
  (pss_cons (ps_if (pt_cmpR o_lt (pv 1) (pe_callB c_len (by rfl) T.b_len (by decide +kernel) (pa_cons (pv 0) pa_nil)) (nomark _)) (pss_one (ps_ret (pe_op o_mod (pe_callTy c_int (by rfl) T.b_int (by decide +kernel) (pa_cons (pe_ix ix_X (pv 0) (pv 1) (fun _ _ => rfl)) pa_nil)) (pv 2)))) pss_nil)
    (pss_cons (ps_set (i := 3) sc__law_draw.nd rfl (Or.inl rfl) (pe_op o_mod (pe_callTy c_int (by rfl) T.b_int (by decide +kernel) (pa_cons (pe_op op_addX (pe_op op_addX (pe_op op_mulX (pe_ix ix_X (pv 0) (pe_op o_mod (pe_callTy c_int (by rfl) T.b_int (by decide +kernel) (pa_cons (pv 1) pa_nil)) (pe_callB c_len (by rfl) T.b_len (by decide +kernel) (pa_cons (pv 0) pa_nil))) (fun _ _ => rfl)) pe_int) (pe_op op_mulX (pv 1) pe_int)) pe_int) pa_nil)) pe_int))
    (pss_one (ps_ret (pe_op o_mod (pe_callTy c_int (by rfl) T.b_int (by decide +kernel) (pa_cons (pe_op o_mod (pe_callTy c_int (by rfl) T.b_int (by decide +kernel) (pa_cons (pe_op op_addX (pe_op op_mulX (pv 3) pe_int) (pv 1)) pa_nil)) pe_int) pa_nil)) (pv 2))))))

def t__law_take (K : PySem.W.Frag) (sp__law_draw_ : Sp) : TS := (tSeq (tAsg (tOp (rAddX K) (tOp (rIxX K) (tVar 1) (tC (.int 0))) (tC (.int 1))) (gSub (tVar 1) (tC (.int 0)) rSetL))
    (tRet (tCallO sp__law_draw_ (tCons (tVar 0) (tCons (tOp rSub (tOp (rIxX K) (tVar 1) (tC (.int 0))) (tC (.int 1))) (tCons (tVar 2) tNil))))))
theorem d__law_take {sp__law_draw_ : Sp} {E : XK} {f : Addr} {A : Around} {outer : List Env} {s : Shared} {H : Hp} {cdv : Value} (hr : Room 1 (A.deeper (PyProof.Rows.envOfC "_law_take" (defScope s__law_take) s.heap.objs.size f cdv))) (T : Txt K mg C_Crashed C_Disk tk_GREATEST_FATE tk_LAST_CELL tk_MOST_CHARACTERS tk_MOST_FATES tk_MOST_STEPS C_BadValue fI_BadValue) (O__law_draw : Ok P w K mg base 1 "_law_draw" ["row", "at", "limit"] (sp__law_draw_)) :
    PSs (cxOf CX0 P w K mg base N__law_take "_law_take" (defScope s__law_take) f cdv A outer s H E).nox (defBody s__law_take) (t__law_take K sp__law_draw_) :=
  (pss_cons (ps_asg (pe_op op_addX (pe_ix ix_X (pv 1) pe_int (fun _ _ => rfl)) pe_int) (pg_sub (pv 1) pe_int set_list))
    (pss_one (ps_ret (pe_cO O__law_draw (hr.mono (by decide)) rfl (pa_cons (pv 0) (pa_cons (pe_op o_sub (pe_ix ix_X (pv 1) pe_int (fun _ _ => rfl)) pe_int) (pa_cons (pv 2) pa_nil)))))))

def t__law_text (K : PySem.W.Frag) (sp__law_take_ : Sp) : TS := (tSeq (tAsg (tC (.str "abcdefghijkl mnopqrstuvwxyz,ABCDEF.0123456789
;:()[]<>=+-_~!#$&*/?@^{|}")) (gName 3))
    (tSeq (tAsg (tC (.str "")) (gName 4))
    (tSeq (tFor (iRng1 (tCons (tVar 2) tNil)) (gName 5) (tSeq (tAsg (tCallO sp__law_take_ (tCons (tVar 0) (tCons (tVar 1) (tCons (tCB rLenS (tCons (tVar 3) tNil)) tNil)))) (gName 6))
    (tAsg (tOp rAddStr (tVar 4) (tOp rIxS (tVar 3) (tVar 6))) (gName 4))))
    (tRet (tVar 4)))))
theorem d__law_text {sp__law_take_ : Sp} {E : XK} {f : Addr} {A : Around} {outer : List Env} {s : Shared} {H : Hp} {cdv : Value} (hr : Room 2 (A.deeper (PyProof.Rows.envOfC "_law_text" (defScope s__law_text) s.heap.objs.size f cdv))) (T : Txt K mg C_Crashed C_Disk tk_GREATEST_FATE tk_LAST_CELL tk_MOST_CHARACTERS tk_MOST_FATES tk_MOST_STEPS C_BadValue fI_BadValue) (O__law_take : Ok P w K mg base 2 "_law_take" ["row", "spot", "limit"] (sp__law_take_)) :
    PSs (cxOf CX0 P w K mg base N__law_text "_law_text" (defScope s__law_text) f cdv A outer s H E).nox (defBody s__law_text) (t__law_text K sp__law_take_) :=
  (pss_cons (ps_set (i := 3) sc__law_text.nd rfl (Or.inl rfl) pe_str)
    (pss_cons (ps_set (i := 4) sc__law_text.nd rfl (Or.inl rfl) pe_str)
    (pss_cons (ps_for PassesOwn.never rfl (pi_range1 (by rfl) T.b_range (pa_cons (pv 2) pa_nil)) (pg_name (i := 5) sc__law_text.nd rfl (Or.inl rfl)) (pss_cons (ps_set (i := 6) sc__law_text.nd rfl (Or.inl rfl) (pe_cO O__law_take (hr.mono (by decide)) rfl (pa_cons (pv 0) (pa_cons (pv 1) (pa_cons (pe_callB c_lenS (by rfl) T.b_len (by decide +kernel) (pa_cons (pv 3) pa_nil)) pa_nil)))))
    (pss_one (ps_set (i := 4) sc__law_text.nd rfl (Or.inl rfl) (pe_op op_addStr (pv 4) (pe_ix ix_str (pv 3) (pv 6) (fun _ _ => rfl)))))))
    (pss_one (ps_ret (pv 4))))))

def t__law_fates (K : PySem.W.Frag) (sp__law_take_ : Sp) : TS := (tSeq (tAsg (tLst tNil) (gName 3))
    (tSeq (tFor (iRng1 (tCons (tVar 2) tNil)) (gName 4) (tSeq (tAsg (tCallO sp__law_take_ (tCons (tVar 0) (tCons (tVar 1) (tCons (tC (.int 4)) tNil)))) (gName 5))
    (tDrop (tBM K "list" rAppend (tVar 3) (tCons (tOp (rIxX K) (tLst (tCons (tC (.int 0)) (tCons (tC (.int 10000)) (tCons (tCallO sp__law_take_ (tCons (tVar 0) (tCons (tVar 1) (tCons (tC (.int 40)) tNil)))) (tCons (tCallO sp__law_take_ (tCons (tVar 0) (tCons (tVar 1) (tCons (tC (.int 997)) tNil)))) tNil))))) (tVar 5)) tNil)))))
    (tRet (tCB (rTupOf K) (tCons (tVar 3) tNil)))))
theorem d__law_fates {sp__law_take_ : Sp} {E : XK} {f : Addr} {A : Around} {outer : List Env} {s : Shared} {H : Hp} {cdv : Value} (hr : Room 2 (A.deeper (PyProof.Rows.envOfC "_law_fates" (defScope s__law_fates) s.heap.objs.size f cdv))) (T : Txt K mg C_Crashed C_Disk tk_GREATEST_FATE tk_LAST_CELL tk_MOST_CHARACTERS tk_MOST_FATES tk_MOST_STEPS C_BadValue fI_BadValue) (O__law_take : Ok P w K mg base 2 "_law_take" ["row", "spot", "limit"] (sp__law_take_)) :
    PSs (cxOf CX0 P w K mg base N__law_fates "_law_fates" (defScope s__law_fates) f cdv A outer s H E).nox (defBody s__law_fates) (t__law_fates K sp__law_take_) :=
  (pss_cons (ps_set (i := 3) sc__law_fates.nd rfl (Or.inl rfl) (pe_lst pa_nil))
    (pss_cons (ps_for PassesOwn.never rfl (pi_range1 (by rfl) T.b_range (pa_cons (pv 2) pa_nil)) (pg_name (i := 4) sc__law_fates.nd rfl (Or.inl rfl)) (pss_cons (ps_set (i := 5) sc__law_fates.nd rfl (Or.inl rfl) (pe_cO O__law_take (hr.mono (by decide)) rfl (pa_cons (pv 0) (pa_cons (pv 1) (pa_cons pe_int pa_nil)))))
    (pss_one (ps_expr (pe_bm PySem.F.plainAttrs_list PySem.F.slot_list_append PySem.F.type_list_append mt_append (pv 3) (pa_cons (pe_ix ix_X (pe_lst (pa_cons pe_int (pa_cons pe_int (pa_cons (pe_cO O__law_take (hr.mono (by decide)) rfl (pa_cons (pv 0) (pa_cons (pv 1) (pa_cons pe_int pa_nil)))) (pa_cons (pe_cO O__law_take (hr.mono (by decide)) rfl (pa_cons (pv 0) (pa_cons (pv 1) (pa_cons pe_int pa_nil)))) pa_nil))))) (pv 5) (fun _ _ => rfl)) pa_nil))))))
    (pss_one (ps_ret (pe_callTy c_tuple (by rfl) T.b_tuple (by decide +kernel) (pa_cons (pv 3) pa_nil))))))

def t__law_done (K : PySem.W.Frag) (C_Crashed : Addr) (C_Disk : Addr) (sp_Disk__read_ : Sp) (sp_Disk__sync_ : Sp) (sp_Disk__write_ : Sp) : TS := (tSeq (tTryO K C_Crashed (fun W => (tIfS (tTest (tOp (rEqX K) (tVar 1) (tC (.int 0)))) (tDrop (tM C_Disk "write" sp_Disk__write_ (WE W) (tVar 0) (tCons (tVar 2) (tCons (tVar 3) tNil)))) (tIfS (tTest (tOp (rEqX K) (tVar 1) (tC (.int 1)))) (tDrop (tM C_Disk "sync" sp_Disk__sync_ (WE W) (tVar 0) tNil)) (tDrop (tM C_Disk "read" sp_Disk__read_ (WE W) (tVar 0) (tCons (tVar 2) tNil)))))) (fun a cls d => (tRet (tC (.bl false)))) (fun _ _ _ _ => False))
    (tRet (tC (.bl true))))
theorem d__law_done {sp_Disk__read_ : Sp} {sp_Disk__sync_ : Sp} {sp_Disk__write_ : Sp} {E : XK} {f : Addr} {A : Around} {outer : List Env} {s : Shared} {H : Hp} {cdv : Value} (hr : Room 4 (A.deeper (PyProof.Rows.envOfC "_law_done" (defScope s__law_done) s.heap.objs.size f cdv))) (T : Txt K mg C_Crashed C_Disk tk_GREATEST_FATE tk_LAST_CELL tk_MOST_CHARACTERS tk_MOST_FATES tk_MOST_STEPS C_BadValue fI_BadValue) (O_Disk__read : OkM (L2.CX P w) P w K mg base 4 C_Disk "read" ["self", "cell"] (sp_Disk__read_)) (O_Disk__sync : OkM (L2.CX P w) P w K mg base 4 C_Disk "sync" ["self"] (sp_Disk__sync_)) (O_Disk__write : OkM (L2.CX P w) P w K mg base 4 C_Disk "write" ["self", "cell", "text"] (sp_Disk__write_)) :
    PSs (cxOf CX0 P w K mg base N__law_done "_law_done" (defScope s__law_done) f cdv A outer s H E).nox (defBody s__law_done) (t__law_done K C_Crashed C_Disk sp_Disk__read_ sp_Disk__sync_ sp_Disk__write_) :=
  (pss_cons (ps_try_only (tb := fun W => (tIfS (tTest (tOp (rEqX K) (tVar 1) (tC (.int 0)))) (tDrop (tM C_Disk "write" sp_Disk__write_ (WE W) (tVar 0) (tCons (tVar 2) (tCons (tVar 3) tNil)))) (tIfS (tTest (tOp (rEqX K) (tVar 1) (tC (.int 1)))) (tDrop (tM C_Disk "sync" sp_Disk__sync_ (WE W) (tVar 0) tNil)) (tDrop (tM C_Disk "read" sp_Disk__read_ (WE W) (tVar 0) (tCons (tVar 2) tNil)))))) (ts := fun a cls d => (tRet (tC (.bl false)))) (Wout := fun _ _ _ _ => False) rfl rfl ⟨rfl, by decide, Or.inl T.n_Crashed.gC⟩ takes0 (fun W pn xe tk po => (pss_one (ps_if (pt_cmpR (op_eqX hr.units) (pv 1) pe_int (nomark _)) (pss_one (ps_expr (pe_m T.o_Disk O_Disk__write (hr.mono (by decide)) (goL tk) (pv 0) (pa_cons (pv 2) (pa_cons (pv 3) pa_nil))))) (pss_one (ps_if (pt_cmpR (op_eqX hr.units) (pv 1) pe_int (nomark _)) (pss_one (ps_expr (pe_m0 T.o_Disk O_Disk__sync (hr.mono (by decide)) (goL tk) (pv 0)))) (pss_one (ps_expr (pe_m T.o_Disk O_Disk__read (hr.mono (by decide)) (goL tk) (pv 0) (pa_cons (pv 2) pa_nil))))))))) (fun a oe cls d pn hz hf => (pss_one (ps_ret pe_bl))))
    (pss_one (ps_ret pe_bl)))

def t__law_off_at (K : PySem.W.Frag) (C_BadValue : Addr) (C_Disk : Addr) (sp_Disk__limit_ : Sp) (sp_Disk__read_ : Sp) (sp_Disk__restart_ : Sp) (sp_Disk__write_ : Sp) : TS := (tSeq (tTry K C_BadValue 3 (fun W => (tIfS (tTest (tOp (rEqX K) (tVar 1) (tC (.int 0)))) (tDrop (tM C_Disk "limit" sp_Disk__limit_ (WE W) (tVar 0) (tCons (tVar 2) tNil))) (tIfS (tTest (tOp (rEqX K) (tVar 1) (tC (.int 1)))) (tDrop (tM C_Disk "restart" sp_Disk__restart_ (WE W) (tVar 0) (tCons (tVar 2) tNil))) (tIfS (tOr (tTest (tOp (rEqX K) (tVar 2) (tC (.int 0)))) (tTest (tOp (rEqX K) (tVar 2) (tC (.int 2))))) (tDrop (tM C_Disk "write" sp_Disk__write_ (WE W) (tVar 0) (tCons (tIf (tTest (tOp (rEqX K) (tVar 2) (tC (.int 0)))) (tUn rNeg (tC (.int 1))) (tC (.int 3))) (tCons (tOp rMulS2 (tC (.str "a")) (tIf (tTest (tOp (rEqX K) (tVar 2) (tC (.int 2)))) (tC (.int 2001)) (tC (.int 1)))) tNil)))) (tDrop (tM C_Disk "read" sp_Disk__read_ (WE W) (tVar 0) (tCons (tC (.int 1000001)) tNil))))))) (fun a cls d => (tRet (Eat.tBy C_BadValue a cls d (tVar 3)))) (fun _ _ _ _ => False))
    (tRet (tC .non)))
theorem d__law_off_at {sp_Disk__limit_ : Sp} {sp_Disk__read_ : Sp} {sp_Disk__restart_ : Sp} {sp_Disk__write_ : Sp} {E : XK} {f : Addr} {A : Around} {outer : List Env} {s : Shared} {H : Hp} {cdv : Value} (hr : Room 4 (A.deeper (PyProof.Rows.envOfC "_law_off_at" (defScope s__law_off_at) s.heap.objs.size f cdv))) (T : Txt K mg C_Crashed C_Disk tk_GREATEST_FATE tk_LAST_CELL tk_MOST_CHARACTERS tk_MOST_FATES tk_MOST_STEPS C_BadValue fI_BadValue) (O_Disk__limit : OkM (L2.CX P w) P w K mg base 3 C_Disk "limit" ["self", "steps"] (sp_Disk__limit_)) (O_Disk__read : OkM (L2.CX P w) P w K mg base 4 C_Disk "read" ["self", "cell"] (sp_Disk__read_)) (O_Disk__restart : OkM (L2.CX P w) P w K mg base 4 C_Disk "restart" ["self", "fates"] (sp_Disk__restart_)) (O_Disk__write : OkM (L2.CX P w) P w K mg base 4 C_Disk "write" ["self", "cell", "text"] (sp_Disk__write_)) :
    PSs (cxOf CX0 P w K mg base N__law_off_at "_law_off_at" (defScope s__law_off_at) f cdv A outer s H E).nox (defBody s__law_off_at) (t__law_off_at K C_BadValue C_Disk sp_Disk__limit_ sp_Disk__read_ sp_Disk__restart_ sp_Disk__write_) :=
  (pss_cons (ps_try_as (i := 3) (tb := fun W => (tIfS (tTest (tOp (rEqX K) (tVar 1) (tC (.int 0)))) (tDrop (tM C_Disk "limit" sp_Disk__limit_ (WE W) (tVar 0) (tCons (tVar 2) tNil))) (tIfS (tTest (tOp (rEqX K) (tVar 1) (tC (.int 1)))) (tDrop (tM C_Disk "restart" sp_Disk__restart_ (WE W) (tVar 0) (tCons (tVar 2) tNil))) (tIfS (tOr (tTest (tOp (rEqX K) (tVar 2) (tC (.int 0)))) (tTest (tOp (rEqX K) (tVar 2) (tC (.int 2))))) (tDrop (tM C_Disk "write" sp_Disk__write_ (WE W) (tVar 0) (tCons (tIf (tTest (tOp (rEqX K) (tVar 2) (tC (.int 0)))) (tUn rNeg (tC (.int 1))) (tC (.int 3))) (tCons (tOp rMulS2 (tC (.str "a")) (tIf (tTest (tOp (rEqX K) (tVar 2) (tC (.int 2)))) (tC (.int 2001)) (tC (.int 1)))) tNil)))) (tDrop (tM C_Disk "read" sp_Disk__read_ (WE W) (tVar 0) (tCons (tC (.int 1000001)) tNil))))))) (ts := fun a cls d => (tRet (Eat.tBy C_BadValue a cls d (tVar 3)))) (Wout := fun _ _ _ _ => False) rfl rfl sc__law_off_at.nd rfl rfl ⟨rfl, by decide, Or.inl T.e_BadValue.gC⟩ takes0 (fun W pn xe tk po => (pss_one (ps_if (pt_cmpR (op_eqX hr.units) (pv 1) pe_int (nomark _)) (pss_one (ps_expr (pe_m T.o_Disk O_Disk__limit (hr.mono (by decide)) (goL tk) (pv 0) (pa_cons (pv 2) pa_nil)))) (pss_one (ps_if (pt_cmpR (op_eqX hr.units) (pv 1) pe_int (nomark _)) (pss_one (ps_expr (pe_m T.o_Disk O_Disk__restart (hr.mono (by decide)) (goL tk) (pv 0) (pa_cons (pv 2) pa_nil)))) (pss_one (ps_if (PW.pt (pw_or (pt_cmpR (op_eqX hr.units) (pv 2) pe_int (nomark _)) (pw_or1 (pt_cmpR (op_eqX hr.units) (pv 2) pe_int (nomark _))))) (pss_one (ps_expr (pe_m T.o_Disk O_Disk__write (hr.mono (by decide)) (goL tk) (pv 0) (pa_cons (pe_ifExp (pt_cmpR (op_eqX hr.units) (pv 2) pe_int (nomark _)) (pe_un u_neg pe_int) pe_int) (pa_cons (pe_op op_mulS2 pe_str (pe_ifExp (pt_cmpR (op_eqX hr.units) (pv 2) pe_int (nomark _)) pe_int pe_int)) pa_nil))))) (pss_one (ps_expr (pe_m T.o_Disk O_Disk__read (hr.mono (by decide)) (goL tk) (pv 0) (pa_cons pe_int pa_nil))))))))))) (fun a oe cls d pn hz hf => (pss_one (ps_ret (Eat.pe_by T.e_BadValue hz hf (pv 3))))))
    (pss_one (ps_ret pe_non)))

def t_law (K : PySem.W.Frag) (C_Disk : Addr) (sp_Disk____init___ : Sp) (sp_Disk__forget_ : Sp) (sp_Disk__limit_ : Sp) (sp_Disk__pending_ : Sp) (sp_Disk__read_ : Sp) (sp_Disk__restart_ : Sp) (sp_Disk__sync_ : Sp) (sp_Disk__writes_ : Sp) (sp__law_done_ : Sp) (sp__law_fates_ : Sp) (sp__law_numbers_ : Sp) (sp__law_off_at_ : Sp) (sp__law_so_ : Sp) (sp__law_take_ : Sp) (sp__law_text_ : Sp) : TS := (tSeq (tAsg (tCallO sp__law_numbers_ (tCons (tVar 0) tNil)) (gName 1))
    (tSeq (tAsg (tLst (tCons (tC (.int 0)) tNil)) (gName 2))
    (tSeq (tAsg (tMake C_Disk sp_Disk____init___ [] E0 tNil) (gName 3))
    (tSeq (tAsg (tLst (tCons (tC (.str "")) (tCons (tC (.str "")) (tCons (tC (.str "")) tNil)))) (gName 4))
    (tSeq (tAsg (tLst tNil) (gName 5))
    (tSeq (tFor (iRng1 (tCons (tC (.int 2)) tNil)) (gName 6) (tSeq (tAsg (tOp (rIxX K) (tLst (tCons (tCallO sp__law_take_ (tCons (tVar 1) (tCons (tVar 2) (tCons (tC (.int 10)) tNil)))) (tCons (tC (.int 1000000)) tNil))) (tOp rFdv (tCallO sp__law_take_ (tCons (tVar 1) (tCons (tVar 2) (tCons (tC (.int 5)) tNil)))) (tC (.int 4)))) (gName 7))
    (tCut (tIfS (tTest (tOp (rEqX K) (tCallO sp__law_take_ (tCons (tVar 1) (tCons (tVar 2) (tCons (tC (.int 3)) tNil)))) (tC (.int 0)))) (tDrop (tM C_Disk "limit" sp_Disk__limit_ (fun _ => E0) (tVar 3) (tCons (tCallO sp__law_take_ (tCons (tVar 1) (tCons (tVar 2) (tCons (tC (.int 4)) tNil)))) tNil))) tNext)
    (tSeq (tDrop (tMK C_Disk "limit" 1 sp_Disk__limit_ [0] (fun _ => E0) (tVar 3) (tCons (tVar 7) tNil)))
    (tSeq (tAsg (tOp (rIxX K) (tLst (tCons (tUn rNeg (tC (.int 1))) (tCons (tC (.int 1000001)) (tCons (tC .non) (tCons (tC (.str "1")) (tCons (tC (.bl true)) tNil)))))) (tCallO sp__law_take_ (tCons (tVar 1) (tCons (tVar 2) (tCons (tC (.int 5)) tNil))))) (gName 8))
    (tSeq (tAsg (tOp (rIxX K) (tLst (tCons (tC .non) (tCons (tC (.int 3)) (tCons (tTup (tCons (tUn rNeg (tC (.int 1))) tNil)) (tCons (tTup (tCons (tC (.int 10001)) tNil)) (tCons (tTup (tCons (tC (.str "0")) tNil)) (tCons (tTup (tCons (tC (.bl true)) tNil)) (tCons (tLst (tCons (tC (.int 0)) (tCons (tC .non) tNil))) tNil)))))))) (tCallO sp__law_take_ (tCons (tVar 1) (tCons (tVar 2) (tCons (tC (.int 7)) tNil))))) (gName 9))
    (tSeq (tIfS (tOr (tNot (tB (tCallO sp__law_so_ (tCons (tCallO sp__law_off_at_ (tCons (tVar 3) (tCons (tC (.int 0)) (tCons (tVar 8) tNil)))) (tCons (tC (.int 0)) tNil))))) (tNot (tB (tCallO sp__law_so_ (tCons (tCallO sp__law_off_at_ (tCons (tVar 3) (tCons (tC (.int 1)) (tCons (tVar 9) tNil)))) (tCons (tC (.int 0)) tNil)))))) (tRet (tC (.bl false))) tNext)
    (tSeq (tAsg (tC (.bl false)) (gName 10))
    (tSeq (tDrop (tM C_Disk "forget" sp_Disk__forget_ (fun _ => E0) (tVar 3) tNil))
    (tSeq (tAsg (tLst tNil) (gName 11))
    (tSeq (tFor (iRng1 (tCons (tC (.int 14)) tNil)) (gName 12) (tSeq (tAsg (tCallO sp__law_take_ (tCons (tVar 1) (tCons (tVar 2) (tCons (tC (.int 3)) tNil)))) (gName 13))
    (tCut (tIfS (tAnd (tB (tVar 10)) (tTest (tOp (rEqX K) (tCallO sp__law_take_ (tCons (tVar 1) (tCons (tVar 2) (tCons (tC (.int 3)) tNil)))) (tC (.int 0))))) (tDrop (tM C_Disk "limit" sp_Disk__limit_ (fun _ => E0) (tVar 3) (tCons (tCallO sp__law_take_ (tCons (tVar 1) (tCons (tVar 2) (tCons (tC (.int 9)) tNil)))) tNil))) tNext)
    (tSeq (tAsg (tCallO sp__law_take_ (tCons (tVar 1) (tCons (tVar 2) (tCons (tC (.int 3)) tNil)))) (gName 14))
    (tSeq (tIfS (tAnd (tTest (tOp (rEqX K) (tCallO sp__law_take_ (tCons (tVar 1) (tCons (tVar 2) (tCons (tC (.int 3)) tNil)))) (tC (.int 0)))) (tNot (tB (tCallO sp__law_so_ (tCons (tCallO sp__law_off_at_ (tCons (tVar 3) (tCons (tC (.int 2)) (tCons (tVar 14) tNil)))) (tCons (tIf (tTest (tOp (rEqX K) (tVar 14) (tC (.int 2)))) (tC (.int 1)) (tC (.int 0))) tNil)))))) (tRet (tC (.bl false))) tNext)
    (tSeq (tAsg (tCallO sp__law_take_ (tCons (tVar 1) (tCons (tVar 2) (tCons (tC (.int 3)) tNil)))) (gName 15))
    (tSeq (tAsg (tCallO sp__law_text_ (tCons (tVar 1) (tCons (tVar 2) (tCons (tCallO sp__law_take_ (tCons (tVar 1) (tCons (tVar 2) (tCons (tC (.int 9)) tNil)))) tNil)))) (gName 16))
    (tCut (tIfS (tTest (tOp rLt (tVar 13) (tC (.int 2)))) (tSeq (tAsg (tOrV (tVar 10) (tOp (rEqX K) (tVar 7) (tC (.int 0)))) (gName 10))
    (tAsg (tCB rMx2 (tCons (tC (.int 0)) (tCons (tOp rSub (tVar 7) (tC (.int 1))) tNil))) (gName 7))) tNext)
    (tSeq (tIfS (tNot (tB (tCallO sp__law_so_ (tCons (tCallO sp__law_done_ (tCons (tVar 3) (tCons (tVar 13) (tCons (tVar 15) (tCons (tVar 16) tNil))))) (tCons (tNotV (tVar 10)) tNil))))) (tRet (tC (.bl false))) tNext)
    (tCut (tIfS (tAnd (tNot (tB (tVar 10))) (tTest (tOp (rEqX K) (tVar 13) (tC (.int 0))))) (tSeq (tDrop (tBM K "list" rAppend (tVar 5) (tCons (tTup (tCons (tVar 15) (tCons (tVar 16) tNil))) tNil)))
    (tDrop (tBM K "list" rAppend (tVar 11) (tCons (tVar 15) tNil)))) tNext)
    (tSeq (tIfS (tNot (tB (tCallO sp__law_so_ (tCons (tM C_Disk "writes" sp_Disk__writes_ (fun _ => E0) (tVar 3) tNil) (tCons (tCB (rTupOf K) (tCons (tVar 11) tNil)) tNil))))) (tRet (tC (.bl false))) tNext)
    (tCut (tIfS (tAnd (tNot (tB (tVar 10))) (tTest (tOp (rEqX K) (tVar 13) (tC (.int 1))))) (tSeq (tFor (iX K (tVar 5)) (gName 17) (tAsg (tOp (rIxX K) (tVar 17) (tC (.int 1))) (gSub (tVar 4) (tOp (rIxX K) (tVar 17) (tC (.int 0))) rSetL)))
    (tAsg (tLst tNil) (gName 5))) tNext)
    (tIfS (tNot (tB (tCallO sp__law_so_ (tCons (tM C_Disk "pending" sp_Disk__pending_ (fun _ => E0) (tVar 3) tNil) (tCons (tCB (rLen K) (tCons (tVar 5) tNil)) tNil))))) (tRet (tC (.bl false))) tNext)))))))))))))
    (tSeq (tAsg (tCallO sp__law_fates_ (tCons (tVar 1) (tCons (tVar 2) (tCons (tCallO sp__law_take_ (tCons (tVar 1) (tCons (tVar 2) (tCons (tC (.int 8)) tNil)))) tNil)))) (gName 9))
    (tSeq (tDrop (tM C_Disk "restart" sp_Disk__restart_ (fun _ => E0) (tVar 3) (tCons (tVar 9) tNil)))
    (tSeq (tFor (iRng1 (tCons (tCB (rLen K) (tCons (tVar 5) tNil)) tNil)) (gName 12) (tCut (tAsg (tIf (tTest (tOp rLt (tVar 12) (tCB (rLen K) (tCons (tVar 9) tNil)))) (tOp (rIxX K) (tVar 9) (tVar 12)) (tC (.int 0))) (gName 18))
    (tAsg (tOp rAddStr (tSl rSlS (tOp (rIxX K) (tOp (rIxX K) (tVar 5) (tVar 12)) (tC (.int 1))) tNoPart (tPart (tVar 18))) (tSl rSlS (tOp (rIxX K) (tVar 4) (tOp (rIxX K) (tOp (rIxX K) (tVar 5) (tVar 12)) (tC (.int 0)))) (tPart (tVar 18)) tNoPart)) (gSub (tVar 4) (tOp (rIxX K) (tOp (rIxX K) (tVar 5) (tVar 12)) (tC (.int 0))) rSetL))))
    (tSeq (tAsg (tLst tNil) (gName 5))
    (tSeq (tFor (iRng1 (tCons (tC (.int 12)) tNil)) (gName 12) (tIfS (tNot (tB (tCallO sp__law_done_ (tCons (tVar 3) (tCons (tC (.int 0)) (tCons (tOp (rAddX K) (tC (.int 3)) (tVar 12)) (tCons (tC (.str "up")) tNil))))))) (tRet (tC (.bl false))) tNext))
    (tSeq (tDrop (tM C_Disk "sync" sp_Disk__sync_ (fun _ => E0) (tVar 3) tNil))
    (tFor (iRng1 (tCons (tC (.int 3)) tNil)) (gName 15) (tIfS (tNot (tB (tCallO sp__law_so_ (tCons (tM C_Disk "read" sp_Disk__read_ (fun _ => E0) (tVar 3) (tCons (tVar 15) tNil)) (tCons (tOp (rIxX K) (tVar 4) (tVar 15)) tNil))))) (tRet (tC (.bl false))) tNext)))))))))))))))))))
    (tRet (tC (.bl true)))))))))
theorem d_law {sp_Disk____init___ : Sp} {sp_Disk__forget_ : Sp} {sp_Disk__limit_ : Sp} {sp_Disk__pending_ : Sp} {sp_Disk__read_ : Sp} {sp_Disk__restart_ : Sp} {sp_Disk__sync_ : Sp} {sp_Disk__writes_ : Sp} {sp__law_done_ : Sp} {sp__law_fates_ : Sp} {sp__law_numbers_ : Sp} {sp__law_off_at_ : Sp} {sp__law_so_ : Sp} {sp__law_take_ : Sp} {sp__law_text_ : Sp} {E : XK} {f : Addr} {A : Around} {outer : List Env} {s : Shared} {H : Hp} {cdv : Value} (hr : Room 5 (A.deeper (PyProof.Rows.envOfC "law" (defScope s_law) s.heap.objs.size f cdv))) (T : Txt K mg C_Crashed C_Disk tk_GREATEST_FATE tk_LAST_CELL tk_MOST_CHARACTERS tk_MOST_FATES tk_MOST_STEPS C_BadValue fI_BadValue) (O_Disk____init__ : OkI CX0 P w K mg base 1 C_Disk "Disk" ["self"] (sp_Disk____init___)) (O_Disk__forget : OkM CX0 P w K mg base 1 C_Disk "forget" ["self"] (sp_Disk__forget_)) (O_Disk__limit : OkM (L2.CX P w) P w K mg base 3 C_Disk "limit" ["self", "steps"] (sp_Disk__limit_)) (kb_Disk__limit_0_steps : OkMK (L2.CX P w) P w K mg base 3 C_Disk "limit" ["self", "steps"] (sp_Disk__limit_) ["steps"] [0]) (O_Disk__pending : OkM CX0 P w K mg base 1 C_Disk "pending" ["self"] (sp_Disk__pending_)) (O_Disk__read : OkM (L2.CX P w) P w K mg base 4 C_Disk "read" ["self", "cell"] (sp_Disk__read_)) (O_Disk__restart : OkM (L2.CX P w) P w K mg base 4 C_Disk "restart" ["self", "fates"] (sp_Disk__restart_)) (O_Disk__sync : OkM (L2.CX P w) P w K mg base 4 C_Disk "sync" ["self"] (sp_Disk__sync_)) (O_Disk__writes : OkM CX0 P w K mg base 1 C_Disk "writes" ["self"] (sp_Disk__writes_)) (O__law_done : Ok P w K mg base 5 "_law_done" ["disk", "kind", "cell", "text"] (sp__law_done_)) (O__law_fates : Ok P w K mg base 3 "_law_fates" ["row", "spot", "many"] (sp__law_fates_)) (O__law_numbers : Ok P w K mg base 1 "_law_numbers" ["script"] (sp__law_numbers_)) (O__law_off_at : Ok P w K mg base 5 "_law_off_at" ["disk", "name", "value"] (sp__law_off_at_)) (O__law_so : Ok P w K mg base 4 "_law_so" ["found", "meant"] (sp__law_so_)) (O__law_take : Ok P w K mg base 2 "_law_take" ["row", "spot", "limit"] (sp__law_take_)) (O__law_text : Ok P w K mg base 3 "_law_text" ["row", "spot", "many"] (sp__law_text_)) :
    PSs (cxOf CX0 P w K mg base N_law "law" (defScope s_law) f cdv A outer s H E).nox (defBody s_law) (t_law K C_Disk sp_Disk____init___ sp_Disk__forget_ sp_Disk__limit_ sp_Disk__pending_ sp_Disk__read_ sp_Disk__restart_ sp_Disk__sync_ sp_Disk__writes_ sp__law_done_ sp__law_fates_ sp__law_numbers_ sp__law_off_at_ sp__law_so_ sp__law_take_ sp__law_text_) :=
  (pss_cons (ps_set (i := 1) sc_law.nd rfl (Or.inl rfl) (pe_cO O__law_numbers (hr.mono (by decide)) rfl (pa_cons (pv 0) pa_nil)))
    (pss_cons (ps_set (i := 2) sc_law.nd rfl (Or.inl rfl) (pe_lst (pa_cons pe_int pa_nil)))
    (pss_cons (ps_set (i := 3) sc_law.nd rfl (Or.inl rfl) (pe_mk0 O_Disk____init__ (hr.mono (by decide)) rfl))
    (pss_cons (ps_set (i := 4) sc_law.nd rfl (Or.inl rfl) (pe_lst (pa_cons pe_str (pa_cons pe_str (pa_cons pe_str pa_nil)))))
    (pss_cons (ps_set (i := 5) sc_law.nd rfl (Or.inl rfl) (pe_lst pa_nil))
    (pss_cons (ps_for PassesOwn.never rfl (pi_range1 (by rfl) T.b_range (pa_cons pe_int pa_nil)) (pg_name (i := 6) sc_law.nd rfl (Or.inl rfl)) (pss_cons (ps_set (i := 7) sc_law.nd rfl (Or.inl rfl) (pe_ix ix_X (pe_lst (pa_cons (pe_cO O__law_take (hr.mono (by decide)) rfl (pa_cons (pv 1) (pa_cons (pv 2) (pa_cons pe_int pa_nil)))) (pa_cons pe_int pa_nil))) (pe_op o_fdiv (pe_cO O__law_take (hr.mono (by decide)) rfl (pa_cons (pv 1) (pa_cons (pv 2) (pa_cons pe_int pa_nil)))) pe_int) (fun _ _ => rfl)))
    (pss_cut (ps_if (pt_cmpR (op_eqX hr.units) (pe_cO O__law_take (hr.mono (by decide)) rfl (pa_cons (pv 1) (pa_cons (pv 2) (pa_cons pe_int pa_nil)))) pe_int (nomark _)) (pss_one (ps_expr (pe_m T.o_Disk O_Disk__limit (hr.mono (by decide)) noL (pv 3) (pa_cons (pe_cO O__law_take (hr.mono (by decide)) rfl (pa_cons (pv 1) (pa_cons (pv 2) (pa_cons pe_int pa_nil)))) pa_nil)))) pss_nil)
    (pss_cons (ps_expr (pe_mK T.o_Disk kb_Disk__limit_0_steps (hr.mono (by decide)) noL (pv 3) (pk_cons (pv 7) pk_nil)))
    (pss_cons (ps_set (i := 8) sc_law.nd rfl (Or.inl rfl) (pe_ix ix_X (pe_lst (pa_cons (pe_un u_neg pe_int) (pa_cons pe_int (pa_cons pe_non (pa_cons pe_str (pa_cons pe_bl pa_nil)))))) (pe_cO O__law_take (hr.mono (by decide)) rfl (pa_cons (pv 1) (pa_cons (pv 2) (pa_cons pe_int pa_nil)))) (fun _ _ => rfl)))
    (pss_cons (ps_set (i := 9) sc_law.nd rfl (Or.inl rfl) (pe_ix ix_X (pe_lst (pa_cons pe_non (pa_cons pe_int (pa_cons (pe_tup (pa_cons (pe_un u_neg pe_int) pa_nil)) (pa_cons (pe_tup (pa_cons pe_int pa_nil)) (pa_cons (pe_tup (pa_cons pe_str pa_nil)) (pa_cons (pe_tup (pa_cons pe_bl pa_nil)) (pa_cons (pe_lst (pa_cons pe_int (pa_cons pe_non pa_nil))) pa_nil)))))))) (pe_cO O__law_take (hr.mono (by decide)) rfl (pa_cons (pv 1) (pa_cons (pv 2) (pa_cons pe_int pa_nil)))) (fun _ _ => rfl)))
    (pss_cons (ps_if (PW.pt (pw_or (pt_not (pt_val (pe_cO O__law_so (hr.mono (by decide)) rfl (pa_cons (pe_cO O__law_off_at (hr.mono (by decide)) rfl (pa_cons (pv 3) (pa_cons pe_int (pa_cons (pv 8) pa_nil)))) (pa_cons pe_int pa_nil))))) (pw_or1 (pt_not (pt_val (pe_cO O__law_so (hr.mono (by decide)) rfl (pa_cons (pe_cO O__law_off_at (hr.mono (by decide)) rfl (pa_cons (pv 3) (pa_cons pe_int (pa_cons (pv 9) pa_nil)))) (pa_cons pe_int pa_nil)))))))) (pss_one (ps_ret pe_bl)) pss_nil)
    (pss_cons (ps_set (i := 10) sc_law.nd rfl (Or.inl rfl) pe_bl)
    (pss_cons (ps_expr (pe_m0 T.o_Disk O_Disk__forget (hr.mono (by decide)) no0 (pv 3)))
    (pss_cons (ps_set (i := 11) sc_law.nd rfl (Or.inl rfl) (pe_lst pa_nil))
    (pss_cons (ps_for PassesOwn.never rfl (pi_range1 (by rfl) T.b_range (pa_cons pe_int pa_nil)) (pg_name (i := 12) sc_law.nd rfl (Or.inl rfl)) (pss_cons (ps_set (i := 13) sc_law.nd rfl (Or.inl rfl) (pe_cO O__law_take (hr.mono (by decide)) rfl (pa_cons (pv 1) (pa_cons (pv 2) (pa_cons pe_int pa_nil)))))
    (pss_cut (ps_if (PW.pt (pw_and (pt_val (pv 10)) (pw_and1 (pt_cmpR (op_eqX hr.units) (pe_cO O__law_take (hr.mono (by decide)) rfl (pa_cons (pv 1) (pa_cons (pv 2) (pa_cons pe_int pa_nil)))) pe_int (nomark _))))) (pss_one (ps_expr (pe_m T.o_Disk O_Disk__limit (hr.mono (by decide)) noL (pv 3) (pa_cons (pe_cO O__law_take (hr.mono (by decide)) rfl (pa_cons (pv 1) (pa_cons (pv 2) (pa_cons pe_int pa_nil)))) pa_nil)))) pss_nil)
    (pss_cons (ps_set (i := 14) sc_law.nd rfl (Or.inl rfl) (pe_cO O__law_take (hr.mono (by decide)) rfl (pa_cons (pv 1) (pa_cons (pv 2) (pa_cons pe_int pa_nil)))))
    (pss_cons (ps_if (PW.pt (pw_and (pt_cmpR (op_eqX hr.units) (pe_cO O__law_take (hr.mono (by decide)) rfl (pa_cons (pv 1) (pa_cons (pv 2) (pa_cons pe_int pa_nil)))) pe_int (nomark _)) (pw_and1 (pt_not (pt_val (pe_cO O__law_so (hr.mono (by decide)) rfl (pa_cons (pe_cO O__law_off_at (hr.mono (by decide)) rfl (pa_cons (pv 3) (pa_cons pe_int (pa_cons (pv 14) pa_nil)))) (pa_cons (pe_ifExp (pt_cmpR (op_eqX hr.units) (pv 14) pe_int (nomark _)) pe_int pe_int) pa_nil)))))))) (pss_one (ps_ret pe_bl)) pss_nil)
    (pss_cons (ps_set (i := 15) sc_law.nd rfl (Or.inl rfl) (pe_cO O__law_take (hr.mono (by decide)) rfl (pa_cons (pv 1) (pa_cons (pv 2) (pa_cons pe_int pa_nil)))))
    (pss_cons (ps_set (i := 16) sc_law.nd rfl (Or.inl rfl) (pe_cO O__law_text (hr.mono (by decide)) rfl (pa_cons (pv 1) (pa_cons (pv 2) (pa_cons (pe_cO O__law_take (hr.mono (by decide)) rfl (pa_cons (pv 1) (pa_cons (pv 2) (pa_cons pe_int pa_nil)))) pa_nil)))))
    (pss_cut (ps_if (pt_cmpR o_lt (pv 13) pe_int (nomark _)) (pss_cons (ps_set (i := 10) sc_law.nd rfl (Or.inl rfl) (pe_or (pv 10) (pe_one (pe_cmpR (op_eqX hr.units) (pv 7) pe_int (nomark _)))))
    (pss_one (ps_set (i := 7) sc_law.nd rfl (Or.inl rfl) (pe_callB (c_max2 rfl) (by rfl) T.b_max (by decide +kernel) (pa_cons pe_int (pa_cons (pe_op o_sub (pv 7) pe_int) pa_nil)))))) pss_nil)
    (pss_cons (ps_if (pt_not (pt_val (pe_cO O__law_so (hr.mono (by decide)) rfl (pa_cons (pe_cO O__law_done (hr.mono (by decide)) rfl (pa_cons (pv 3) (pa_cons (pv 13) (pa_cons (pv 15) (pa_cons (pv 16) pa_nil))))) (pa_cons (pe_not (pv 10)) pa_nil))))) (pss_one (ps_ret pe_bl)) pss_nil)
    (pss_cut (ps_if (PW.pt (pw_and (pt_not (pt_val (pv 10))) (pw_and1 (pt_cmpR (op_eqX hr.units) (pv 13) pe_int (nomark _))))) (pss_cons (ps_expr (pe_bm PySem.F.plainAttrs_list PySem.F.slot_list_append PySem.F.type_list_append mt_append (pv 5) (pa_cons (pe_tup (pa_cons (pv 15) (pa_cons (pv 16) pa_nil))) pa_nil)))
    (pss_one (ps_expr (pe_bm PySem.F.plainAttrs_list PySem.F.slot_list_append PySem.F.type_list_append mt_append (pv 11) (pa_cons (pv 15) pa_nil))))) pss_nil)
    (pss_cons (ps_if (pt_not (pt_val (pe_cO O__law_so (hr.mono (by decide)) rfl (pa_cons (pe_m0 T.o_Disk O_Disk__writes (hr.mono (by decide)) no0 (pv 3)) (pa_cons (pe_callTy c_tuple (by rfl) T.b_tuple (by decide +kernel) (pa_cons (pv 11) pa_nil)) pa_nil))))) (pss_one (ps_ret pe_bl)) pss_nil)
    (pss_cut (ps_if (PW.pt (pw_and (pt_not (pt_val (pv 10))) (pw_and1 (pt_cmpR (op_eqX hr.units) (pv 13) pe_int (nomark _))))) (pss_cons (ps_for PassesOwn.never rfl (pi_X (pv 5)) (pg_name (i := 17) sc_law.nd rfl (Or.inl rfl)) (pss_one (ps_asg (pe_ix ix_X (pv 17) pe_int (fun _ _ => rfl)) (pg_sub (pv 4) (pe_ix ix_X (pv 17) pe_int (fun _ _ => rfl)) set_list))))
    (pss_one (ps_set (i := 5) sc_law.nd rfl (Or.inl rfl) (pe_lst pa_nil)))) pss_nil)
    (pss_one (ps_if (pt_not (pt_val (pe_cO O__law_so (hr.mono (by decide)) rfl (pa_cons (pe_m0 T.o_Disk O_Disk__pending (hr.mono (by decide)) no0 (pv 3)) (pa_cons (pe_callB c_len (by rfl) T.b_len (by decide +kernel) (pa_cons (pv 5) pa_nil)) pa_nil))))) (pss_one (ps_ret pe_bl)) pss_nil))))))))))))))
    (pss_cons (ps_set (i := 9) sc_law.nd rfl (Or.inl rfl) (pe_cO O__law_fates (hr.mono (by decide)) rfl (pa_cons (pv 1) (pa_cons (pv 2) (pa_cons (pe_cO O__law_take (hr.mono (by decide)) rfl (pa_cons (pv 1) (pa_cons (pv 2) (pa_cons pe_int pa_nil)))) pa_nil)))))
    (pss_cons (ps_expr (pe_m T.o_Disk O_Disk__restart (hr.mono (by decide)) noL (pv 3) (pa_cons (pv 9) pa_nil)))
    (pss_cons (ps_for PassesOwn.never rfl (pi_range1 (by rfl) T.b_range (pa_cons (pe_callB c_len (by rfl) T.b_len (by decide +kernel) (pa_cons (pv 5) pa_nil)) pa_nil)) (pg_name (i := 12) sc_law.nd rfl (Or.inl rfl)) (pss_cut (ps_set (i := 18) sc_law.nd rfl (Or.inl rfl) (pe_ifExp (pt_cmpR o_lt (pv 12) (pe_callB c_len (by rfl) T.b_len (by decide +kernel) (pa_cons (pv 9) pa_nil)) (nomark _)) (pe_ix ix_X (pv 9) (pv 12) (fun _ _ => rfl)) pe_int))
    (pss_one (ps_asg (pe_op op_addStr (pe_slice sl_str (pe_ix ix_X (pe_ix ix_X (pv 5) (pv 12) (fun _ _ => rfl)) pe_int (fun _ _ => rfl)) po_none (po_some (pv 18))) (pe_slice sl_str (pe_ix ix_X (pv 4) (pe_ix ix_X (pe_ix ix_X (pv 5) (pv 12) (fun _ _ => rfl)) pe_int (fun _ _ => rfl)) (fun _ _ => rfl)) (po_some (pv 18)) po_none)) (pg_sub (pv 4) (pe_ix ix_X (pe_ix ix_X (pv 5) (pv 12) (fun _ _ => rfl)) pe_int (fun _ _ => rfl)) set_list)))))
    (pss_cons (ps_set (i := 5) sc_law.nd rfl (Or.inl rfl) (pe_lst pa_nil))
    (pss_cons (ps_for PassesOwn.never rfl (pi_range1 (by rfl) T.b_range (pa_cons pe_int pa_nil)) (pg_name (i := 12) sc_law.nd rfl (Or.inl rfl)) (pss_one (ps_if (pt_not (pt_val (pe_cO O__law_done (hr.mono (by decide)) rfl (pa_cons (pv 3) (pa_cons pe_int (pa_cons (pe_op op_addX pe_int (pv 12)) (pa_cons pe_str pa_nil))))))) (pss_one (ps_ret pe_bl)) pss_nil)))
    (pss_cons (ps_expr (pe_m0 T.o_Disk O_Disk__sync (hr.mono (by decide)) noL (pv 3)))
    (pss_one (ps_for PassesOwn.never rfl (pi_range1 (by rfl) T.b_range (pa_cons pe_int pa_nil)) (pg_name (i := 15) sc_law.nd rfl (Or.inl rfl)) (pss_one (ps_if (pt_not (pt_val (pe_cO O__law_so (hr.mono (by decide)) rfl (pa_cons (pe_m T.o_Disk O_Disk__read (hr.mono (by decide)) noL (pv 3) (pa_cons (pv 15) pa_nil)) (pa_cons (pe_ix ix_X (pv 4) (pv 15) (fun _ _ => rfl)) pa_nil))))) (pss_one (ps_ret pe_bl)) pss_nil)))))))))))))))))))))
    (pss_one (ps_ret pe_bl))))))))

/-! ### the law's own draws -/
def sp__law_draw : Sp := fun vs H Q _ => ∃ (p : Addr) (rs : List Int) (at_ lim : Int), vs = [.ref p, .int at_, .int lim] ∧ H p = some (.lst (rs.map V.int)) ∧ rs ≠ [] ∧ 0 ≤ at_ ∧ 0 < lim ∧ ∀ r, 0 ≤ r → r < lim → Q (.int r) H
theorem ok__law_draw {f : Addr} {fd : FuncData} (F : Fun K "_law_draw" "_law_draw" s__law_draw f fd) (T : Txt K mg C_Crashed C_Disk tk_GREATEST_FATE tk_LAST_CELL tk_MOST_CHARACTERS tk_MOST_FATES tk_MOST_STEPS C_BadValue fI_BadValue)  : FnOk P w K mg base CX0 1 f fd ["row", "at", "limit"] sp__law_draw := by
  refine F.ok sc__law_draw (fun vs H Q E h => ?_) (fun cdv A outer s H vs Q E hr h => ?_)
  · obtain ⟨p, rs, a, l, rfl, _⟩ := h
    rfl
  · obtain ⟨p, rs, a, l, rfl, hp, hne, ha, hl, k⟩ := h
    refine ⟨_, d__law_draw hr T , ?_⟩
    unfold t__law_draw
    have hpos : 0 < rs.length := List.length_pos_iff.mpr hne
    have hm : (rs.map V.int).length = rs.length := List.length_map ..
    refine x_start (σ' := [some (.ref p), some (.int a), some (.int l), none]) rfl ?_
    walk_at "sts"
    refine x_lenL hp ?_
    walk_at "sts"
    rw [hm]
    refine x_dec (fun h1 => ?_) (fun h1 => ?_)
    · walk_at "sts"
      have hj : a.toNat < rs.length := by omega
      refine x_ixL (v := .int rs[a.toNat]) hp (at_of (j := a.toNat) (by omega) (ints_at (List.getElem?_eq_getElem hj))) ?_
      walk_at "sts"
      refine x_mod hl ?_
      exact k _ (Int.emod_nonneg _ (by omega)) (Int.emod_lt_of_pos _ hl)
    · walk_at "sts"
      refine x_lenL hp ?_
      rw [hm]
      refine x_mod (by omega) ?_
      have h0 : 0 ≤ a % (rs.length : Int) := Int.emod_nonneg _ (by omega)
      have h2 : a % (rs.length : Int) < rs.length := Int.emod_lt_of_pos _ (by omega)
      have hj : (a % (rs.length : Int)).toNat < rs.length := by omega
      refine x_ixL (v := .int rs[(a % (rs.length : Int)).toNat]) hp (at_of (j := (a % (rs.length : Int)).toNat) (by omega) (ints_at (List.getElem?_eq_getElem hj))) ?_
      walk_at "sts"
      refine x_mulI (cmulR (by decide) (by decide)) ?_
      walk_at "sts"
      refine x_mulI (cmulR (by decide) (by decide)) ?_
      walk_at "sts"
      refine x_mod (by decide) ?_
      walk_at "sts"
      refine x_mulI (cmulR (by decide) (by decide)) ?_
      walk_at "sts"
      refine x_mod (by decide) ?_
      walk_at "sts"
      refine x_mod hl ?_
      exact k _ (Int.emod_nonneg _ (by omega)) (Int.emod_lt_of_pos _ hl)
theorem x_draw {p : Addr} {rs : List Int} {a l : Int} {H : Hp} {Q : VK} {E : XK} (hp : H p = some (.lst (rs.map V.int))) (hne : rs ≠ []) (ha : 0 ≤ a) (hl : 0 < l) (q : ∀ r, 0 ≤ r → r < l → Q (.int r) H) : sp__law_draw [.ref p, .int a, .int l] H Q E :=
  ⟨p, rs, a, l, rfl, hp, hne, ha, hl, q⟩
def sp__law_take : Sp := fun vs H Q _ => ∃ (row sp : Addr) (lim : Int), vs = [.ref row, .ref sp, .int lim] ∧ Wd H row sp ∧ 0 < lim ∧ ∀ r H', 0 ≤ r → r < lim → Kp [sp] H H' → Wd H' row sp → Q (.int r) H'
theorem x_take {row sp : Addr} {l : Int} {H : Hp} {Q : VK} {E : XK} (W : Wd H row sp) (hl : 0 < l) (q : ∀ r H', 0 ≤ r → r < l → Kp [sp] H H' → Wd H' row sp → Q (.int r) H') : sp__law_take [.ref row, .ref sp, .int l] H Q E :=
  ⟨row, sp, l, rfl, W, hl, q⟩
theorem ok__law_take {f : Addr} {fd : FuncData} (F : Fun K "_law_take" "_law_take" s__law_take f fd) (T : Txt K mg C_Crashed C_Disk tk_GREATEST_FATE tk_LAST_CELL tk_MOST_CHARACTERS tk_MOST_FATES tk_MOST_STEPS C_BadValue fI_BadValue) (O__law_draw : Ok P w K mg base 1 "_law_draw" ["row", "at", "limit"] (sp__law_draw)) : FnOk P w K mg base CX0 2 f fd ["row", "spot", "limit"] sp__law_take := by
  refine F.ok sc__law_take (fun vs H Q E h => ?_) (fun cdv A outer s H vs Q E hr h => ?_)
  · obtain ⟨p, rs, a, rfl, _⟩ := h
    rfl
  · obtain ⟨row, sp, l, rfl, W, hl, k⟩ := h
    obtain ⟨⟨s, rs, h0, hs, hrow, hne, hlen⟩, ne⟩ := id W
    refine ⟨_, d__law_take hr T O__law_draw, ?_⟩
    unfold t__law_take
    refine x_start (σ' := [some (.ref row), some (.ref sp), some (.int l)]) rfl ?_
    walk_at "sts"
    refine x_ixL hs (v := .int s) (by rfl) ?_
    walk_at "sts"
    refine x_setL hs (m := 0) (by rfl) ?_
    walk_at "sts"
    refine x_ixL upd_same (v := .int (s + 1)) (by rfl) ?_
    walk_at "sts"
    refine x_draw (upd_get' ne hrow) hne (by omega) hl fun r r0 r1 => ?_
    exact k r _ r0 r1 (Kp.refl.mut (List.mem_singleton.mpr rfl)) ⟨⟨s + 1, rs, by omega, upd_same, upd_get' ne hrow, hne, hlen⟩, ne⟩
theorem cut_map (ns : List Int) (lo hi : Option Int) : ∃ ms : List Int, cutV (ns.map V.int) lo hi = ms.map V.int ∧ ms.length ≤ ns.length := by
  refine ⟨(ns.drop (HT.sIx (ns.map V.int).length 0 lo)).take (HT.sIx (ns.map V.int).length (ns.map V.int).length hi - HT.sIx (ns.map V.int).length 0 lo), ?_, ?_⟩
  · unfold cutV
    rw [List.map_take, List.map_drop]
  · rw [List.length_take, List.length_drop]
    omega
def sp__law_numbers (K : PySem.W.Frag) : Sp := fun vs H Q _ => ∃ (a : Addr) (ns : List Int), vs = [.ref a] ∧ SqL K H a (ns.map V.int) ∧ ns.length ≤ 63 ∧ ∀ p H' (rs : List Int), Same H H' → H p = none → H' p = some (.lst (rs.map V.int)) → rs ≠ [] → rs.length ≤ 4000 → Q (.ref p) H'
theorem ok__law_numbers {f : Addr} {fd : FuncData} (F : Fun K "_law_numbers" "_law_numbers" s__law_numbers f fd) (T : Txt K mg C_Crashed C_Disk tk_GREATEST_FATE tk_LAST_CELL tk_MOST_CHARACTERS tk_MOST_FATES tk_MOST_STEPS C_BadValue fI_BadValue)  : FnOk P w K mg base CX0 1 f fd ["script"] (sp__law_numbers K) := by
  refine F.ok sc__law_numbers (fun vs H Q E h => ?_) (fun cdv A outer s H vs Q E hr h => ?_)
  · obtain ⟨a, ns, rfl, _⟩ := h
    rfl
  · obtain ⟨a, ns, rfl, ha, hl, k⟩ := h
    refine ⟨_, d__law_numbers hr T , ?_⟩
    unfold t__law_numbers
    refine x_start (σ' := [some (.ref a), none, none, none, none, none]) rfl ?_
    walk_at "sts"
    refine x_mkl rfl (by decide) fun p hp => ?_
    walk_at "sts"
    have s1 : Same H (upd H p (.lst [])) := Same.new (Same.refl H) hp
    refine x_slL (s1.seq ha) fun c hc => ?_
    obtain ⟨ms, em, lm⟩ := cut_map ns none (some 63)
    rw [em]
    have pc : p ≠ c := Ne.symm (new_ne hc upd_same)
    have s2 : Same H (upd (upd H p (.lst [])) c (.lst (ms.map V.int))) := Same.new s1 hc
    have hc0 : H c = none := Same.none s1 hc
    refine x_loopL (xs := ms.map V.int) (SqL.of upd_same) (fun i σ H' => ∃ (rs : List Int) (x2 x3 x4 x5 : Option V), σ = [some (.ref a), some (.ref p), x2, x3, x4, x5] ∧ Same H H' ∧ H' p = some (.lst (rs.map V.int)) ∧ rs.length ≤ 60 * i ∧ H' c = some (.lst (ms.map V.int))) ?_ ?_ ?_ ?_
    · exact ⟨[], none, none, none, none, rfl, s2, upd_get hc upd_same, by simp, upd_same⟩
    · rintro i σ H' _ ⟨rs, x2, x3, x4, x5, rfl, h1, h2, h3, h4⟩
      exact SqL.of h4
    · rintro i x σ H' hx ⟨rs, x2, x3, x4, x5, rfl, h1, h2, h3, h4⟩
      obtain ⟨z, hz, rfl⟩ : ∃ z, ms[i]? = some z ∧ x = V.int z := by
        rw [List.getElem?_map] at hx
        cases e : ms[i]? with
        | none => rw [e] at hx; cases hx
        | some z => rw [e] at hx; exact ⟨z, rfl, (Option.some.inj hx).symm⟩
      have hi : i < 63 := by
        have := (List.getElem?_eq_some_iff.mp hz).1
        omega
      walk_at "sts"
      refine x_pow (by decide) ?_
      walk_at "sts"
      refine x_dec (fun g1 => ?_) (fun g1 => ?_)
      · walk_at "sts"
        refine x_rng 60 (by decide) rfl ?_
        refine x_loopR (fun j σ H2 => ∃ (rs : List Int) (l : Int) (x4 x5 : Option V), σ = [some (.ref a), some (.ref p), some (.int z), some (.int l), x4, x5] ∧ Same H H2 ∧ H2 p = some (.lst (rs.map V.int)) ∧ rs.length ≤ 60 * i + j ∧ H2 c = some (.lst (ms.map V.int))) ?_ ?_ ?_
        · exact ⟨rs, z, x4, x5, rfl, h1, h2, by omega, h4⟩
        · rintro j σ H2 hj ⟨rs, l, x4, x5, rfl, h1, h2, h3, h4⟩
          walk_at "sts"
          refine x_dec (fun g2 => ?_) (fun g2 => ?_)
          · walk_at "sts"
            exact ⟨rs, _, _, _, _, rfl, h1, h2, by omega, h4⟩
          · walk_at "sts"
            refine x_bmL h2 ?_
            walk_at "sts"
            refine x_mod (by decide) ?_
            walk_at "sts"
            refine x_app h2 (szl (by rw [List.length_map]; omega)) ?_
            walk_at "sts"
            refine x_fdv (by decide) ?_
            walk_at "sts"
            rw [map_snoc]
            exact ⟨_, _, _, _, rfl, Same.own h1 hp, upd_same, by simp; omega, upd_get' (Ne.symm pc) h4⟩
        · rintro σ H2 ⟨rs, l, x4, x5, rfl, h1, h2, h3, h4⟩
          exact ⟨rs, _, _, _, _, rfl, h1, h2, by omega, h4⟩
      · walk_at "sts"
        refine x_rng 4 (by decide) rfl ?_
        refine x_loopR (fun j σ H2 => ∃ (rs : List Int) (x3 x4 x5 : Option V), σ = [some (.ref a), some (.ref p), some (.int z), x3, x4, x5] ∧ Same H H2 ∧ H2 p = some (.lst (rs.map V.int)) ∧ rs.length ≤ 60 * i + j ∧ H2 c = some (.lst (ms.map V.int))) ?_ ?_ ?_
        · exact ⟨rs, x3, x4, x5, rfl, h1, h2, by omega, h4⟩
        · rintro j σ H2 hj ⟨rs, x3, x4, x5, rfl, h1, h2, h3, h4⟩
          walk_at "sts"
          refine x_mulI (cmulR (by decide) (by decide)) ?_
          walk_at "sts"
          refine x_mulI (cmulR (by decide) (by decide)) ?_
          walk_at "sts"
          refine x_mod (by decide) ?_
          walk_at "sts"
          refine x_bmL h2 ?_
          walk_at "sts"
          refine x_mulI (cmulR (by decide) (by decide)) ?_
          walk_at "sts"
          refine x_mod (by decide) ?_
          walk_at "sts"
          refine x_app h2 (szl (by rw [List.length_map]; omega)) ?_
          walk_at "sts"
          rw [map_snoc]
          exact ⟨_, _, _, _, rfl, Same.own h1 hp, upd_same, by simp; omega, upd_get' (Ne.symm pc) h4⟩
        · rintro σ H2 ⟨rs, x3, x4, x5, rfl, h1, h2, h3, h4⟩
          exact ⟨rs, _, _, _, _, rfl, h1, h2, by omega, h4⟩
    · rintro σ H' ⟨rs, x2, x3, x4, x5, rfl, h1, h2, h3, h4⟩
      rw [List.length_map] at h3
      refine x_cut (fun σ2 H2 => ∃ (rs : List Int), σ2 = [some (.ref a), some (.ref p), x2, x3, x4, x5] ∧ Same H H2 ∧ H2 p = some (.lst (rs.map V.int)) ∧ rs ≠ [] ∧ rs.length ≤ 4000) ?_ ?_
      · walk_at "sts"
        refine x_lenL h2 ?_
        walk_at "sts"
        rw [List.length_map]
        refine x_dec (fun g => ?_) (fun g => ?_)
        · have e : rs = [] := List.length_eq_zero_iff.mp (by omega)
          subst e
          walk_at "sts"
          refine x_bmL h2 ?_
          walk_at "sts"
          refine x_app h2 (szl (by simp)) ?_
          walk_at "sts"
          exact ⟨[0], rfl, Same.own h1 hp, upd_same, by simp, by simp⟩
        · walk_at "sts"
          exact ⟨rs, rfl, h1, h2, fun z => g (by rw [z]; rfl), by omega⟩
      · rintro σ2 H2 ⟨rs2, rfl, g1, g2, g3, g4⟩
        walk_at "sts"
        exact k p _ rs2 g1 hp g2 g3 g4
/-! ### so -/
theorem fn_void {f : Addr} {fd : FuncData} {ps : List Str} {sp : Sp} {k : Nat} (h : ∀ vs H Q E, ¬ sp vs H Q E) : FnOk P w K mg base CX0 k f fd ps sp :=
  ⟨fun vs H Q E z => (h vs H Q E z).elim, fun A outer s H args us vs Q E hr e0 hb r z => (h vs H Q E z).elim⟩
def sp__law_so (n : Nat) : Sp := fun vs H Q _ => ∃ (sp : List Addr) (v u : V) (d : Da), vs = [v, u] ∧ Rp sp H v d ∧ Rp sp H u d ∧ Dn n d ∧ Q (.bl true) H
theorem x_so {n : Nat} {H : Hp} {Q : VK} {E : XK} {sp : List Addr} {v u : V} {d : Da} (h1 : Rp sp H v d) (h2 : Rp sp H u d) (hn : Dn n d) (q : Q (.bl true) H) : sp__law_so n [v, u] H Q E := ⟨sp, v, u, d, rfl, h1, h2, hn, q⟩
theorem ok__law_so {f : Addr} {fd : FuncData} (F : Fun K "_law_so" "_law_so" s__law_so f fd) (T : Txt K mg C_Crashed C_Disk tk_GREATEST_FATE tk_LAST_CELL tk_MOST_CHARACTERS tk_MOST_FATES tk_MOST_STEPS C_BadValue fI_BadValue) (n : Nat) (O__law_so : Ok P w K mg base n "_law_so" ["found", "meant"] (sp__law_so n)) : FnOk P w K mg base CX0 (n + 1) f fd ["found", "meant"] (sp__law_so (n + 1)) := by
  refine F.ok sc__law_so (fun vs H Q E h => ?_) (fun cdv A outer s H vs Q E hr h => ?_)
  · obtain ⟨sp, v, u, d, rfl, _⟩ := h
    rfl
  · obtain ⟨sp, v, u, d, rfl, h1, h2, hn, k⟩ := h
    refine ⟨_, d__law_so hr T O__law_so, ?_⟩
    unfold t__law_so
    refine x_start (σ' := [some v, some u, none]) rfl ?_
    walk_at "sts"
    cases hn with
    | non =>
      cases h1.nonI; cases h2.nonI
      refine x_dec (fun _ => ?_) (fun z => absurd rfl z)
      walk_at "sts"
      rw [decide_eq_true rfl]
      exact k
    | bl b =>
      cases h1.blI; cases h2.blI
      refine x_dec (fun z => nomatch z) (fun _ => ?_)
      walk_at "sts"
      refine x_isaB h2 (by decide) (b := false) (by walk_at "isa") ?_
      walk_at "sts"
      refine x_isaB h2 (by decide) (b := true) (by walk_at "isa") ?_
      walk_at "sts"
      refine x_isaB h2 (by decide) (b := true) (by walk_at "isa") ?_
      walk_at "sts"
      refine x_isaB h1 (by decide) (b := true) (by walk_at "isa") ?_
      walk_at "sts"
      exact x_eqR rfl k
    | int i =>
      cases h1.intI; cases h2.intI
      refine x_dec (fun z => nomatch z) (fun _ => ?_)
      walk_at "sts"
      refine x_isaB h2 (by decide) (b := false) (by walk_at "isa") ?_
      walk_at "sts"
      refine x_isaB h2 (by decide) (b := false) (by walk_at "isa") ?_
      walk_at "sts"
      refine x_isaB h1 (by decide) (b := false) (by walk_at "isa") ?_
      walk_at "sts"
      refine x_isaB h2 (by decide) (b := true) (by walk_at "isa") ?_
      walk_at "sts"
      refine x_isaB h1 (by decide) (b := true) (by walk_at "isa") ?_
      walk_at "st"
      walk_at "st"
      walk_at "st"
      walk_at "st"
      walk_at "st"
      exact x_eqR rfl k
    | str x =>
      cases h1.strI; cases h2.strI
      refine x_dec (fun z => nomatch z) (fun _ => ?_)
      walk_at "sts"
      refine x_isaB h2 (by decide) (b := false) (by walk_at "isa") ?_
      walk_at "sts"
      refine x_isaB h2 (by decide) (b := false) (by walk_at "isa") ?_
      walk_at "sts"
      refine x_isaB h1 (by decide) (b := false) (by walk_at "isa") ?_
      walk_at "sts"
      refine x_isaB h2 (by decide) (b := false) (by walk_at "isa") ?_
      walk_at "sts"
      refine x_isaB h2 (by decide) (b := true) (by walk_at "isa") ?_
      walk_at "sts"
      refine x_isaB h1 (by decide) (b := true) (by walk_at "isa") ?_
      walk_at "sts"
      exact x_eqR rfl k
    | @tup _ ds hb hd =>
      obtain ⟨a1, xs, rfl, n1, e1, r1⟩ := h1.tupI
      obtain ⟨a2, ys, rfl, n2, e2, r2⟩ := h2.tupI
      refine x_dec (fun z => nomatch z) (fun _ => ?_)
      walk_at "sts"
      refine x_isaB h2 (by decide) (b := true) (by walk_at "isa") ?_
      walk_at "sts"
      refine x_isaB h1 (by decide) (b := true) (by walk_at "isa") ?_
      walk_at "sts"
      refine x_lenT e1 ?_
      walk_at "sts"
      refine x_lenT e2 ?_
      walk_at "sts"
      rw [r1.1, r2.1]
      refine x_ndec (fun z => absurd rfl z) (fun _ => ?_)
      walk_at "sts"
      refine x_lenT e2 ?_
      walk_at "sts"
      rw [r2.1]
      · refine x_rng ds.length (Nat.le_trans hb (by decide)) rfl ?_
        refine x_loopR (fun i σ H' => ∃ x, σ = [some (.ref a1), some (.ref a2), x] ∧ H' = H) ⟨none, rfl, rfl⟩ ?_ ?_
        · rintro i σ H' hi ⟨x, rfl, rfl⟩
          obtain ⟨y1, g1, p1⟩ := rps_get r1 (List.getElem?_eq_getElem hi)
          obtain ⟨y2, g2, p2⟩ := rps_get r2 (List.getElem?_eq_getElem hi)
          walk_at "sts"
          refine x_ixT e1 (at_of (j := i) rfl g1) ?_
          walk_at "sts"
          refine x_ixT e2 (at_of (j := i) rfl g2) ?_
          walk_at "sts"
          refine x_so p1 p2 (hd _ (List.getElem_mem hi)) ?_
          walk_at "sts"
          exact ⟨_, rfl, rfl⟩
        · rintro σ H' ⟨x, rfl, rfl⟩
          walk_at "sts"
          exact k
theorem rok__law_so {f : Addr} {fd : FuncData} (F : Fun K "_law_so" "_law_so" s__law_so f fd) (T : Txt K mg C_Crashed C_Disk tk_GREATEST_FATE tk_LAST_CELL tk_MOST_CHARACTERS tk_MOST_FATES tk_MOST_STEPS C_BadValue fI_BadValue) (m : mg "_law_so" = some (.ref f)) (b : Binds K fd ["found", "meant"] []) : ∀ n, Ok P w K mg base n "_law_so" ["found", "meant"] (sp__law_so n)
  | 0 => ⟨f, fd, fn_void fun vs H Q E ⟨sp, v, u, d, _, _, _, hn, _⟩ => (nomatch hn), m, F.kp, b⟩
  | n + 1 => ⟨f, fd, ok__law_so F T n (rok__law_so F T m b n), m, F.kp, b⟩
/-! ### whole numbers -/
def Da.isInt : Da → Bool
  | .int _ => true
  | _ => false
def sp_is_integer : Sp := fun vs H Q _ => ∃ (ex : List Addr) (v : V) (d : Da), vs = [v] ∧ Rp ex H v d ∧ Q (.bl d.isInt) H
theorem ok_is_integer {f : Addr} {fd : FuncData} (F : Fun K "is_integer" "is_integer" s_is_integer f fd) (T : Txt K mg C_Crashed C_Disk tk_GREATEST_FATE tk_LAST_CELL tk_MOST_CHARACTERS tk_MOST_FATES tk_MOST_STEPS C_BadValue fI_BadValue)  : FnOk P w K mg base CX0 1 f fd ["value"] sp_is_integer := by
  refine F.ok sc_is_integer (fun vs H Q E h => ?_) (fun cdv A outer s H vs Q E hr h => ?_)
  · obtain ⟨ex, v, d, rfl, _⟩ := h
    rfl
  · obtain ⟨ex, v, d, rfl, h, k⟩ := h
    refine ⟨_, d_is_integer hr T , ?_⟩
    unfold t_is_integer
    refine x_start (σ' := [some v]) rfl ?_
    walk_at "sts"
    cases d with
    | int i =>
      refine x_isaB h (by decide) (b := true) (by walk_at "isa") ?_
      walk_at "sts"
      refine x_isaB h (by decide) (b := false) (by walk_at "isa") ?_
      walk_at "sts"
      exact k
    | bl b =>
      refine x_isaB h (by decide) (b := true) (by walk_at "isa") ?_
      walk_at "sts"
      refine x_isaB h (by decide) (b := true) (by walk_at "isa") ?_
      walk_at "sts"
      exact k
    | _ =>
      refine x_isaB h (by decide) (b := false) (by walk_at "isa") ?_
      walk_at "sts"
      exact k

def Da.isSeq : Da → Bool
  | .tup _ => true
  | .lst _ => true
  | _ => false
def sp_is_sequence : Sp := fun vs H Q _ => ∃ (ex : List Addr) (v : V) (d : Da), vs = [v] ∧ Rp ex H v d ∧ ∀ H', Same H H' → Q (.bl d.isSeq) H'
theorem ok_is_sequence {f : Addr} {fd : FuncData} (F : Fun K "is_sequence" "is_sequence" s_is_sequence f fd) (T : Txt K mg C_Crashed C_Disk tk_GREATEST_FATE tk_LAST_CELL tk_MOST_CHARACTERS tk_MOST_FATES tk_MOST_STEPS C_BadValue fI_BadValue)  : FnOk P w K mg base CX0 1 f fd ["value"] sp_is_sequence := by
  refine F.ok sc_is_sequence (fun vs H Q E h => ?_) (fun cdv A outer s H vs Q E hr h => ?_)
  · obtain ⟨ex, v, d, rfl, _⟩ := h
    rfl
  · obtain ⟨ex, v, d, rfl, h, k⟩ := h
    refine ⟨_, d_is_sequence hr T , ?_⟩
    unfold t_is_sequence
    refine x_start (σ' := [some v]) rfl ?_
    walk_at "sts"
    refine x_mkt rfl (by decide) fun p hp => ?_
    walk_at "sts"
    have s1 : Same H (upd H p (.tup [.ty "list", .ty "tuple"])) := Same.new (Same.refl H) hp
    refine x_isLT (h.same s1) upd_same ?_
    have e : (d.isa "list" || d.isa "tuple") = d.isSeq := by cases d <;> (dsimp only [Da.isa, Da.isSeq]; decide)
    rw [e]
    exact k _ s1
/-! ### disks -/
/-- what no way reaches -/
def spV : Sp := fun _ _ _ _ => False
abbrev Kv := List (Key × V)
structure DS where
  du : Kv
  sh : Kv
  wa : List (Int × Str)
  left : Option Int
  dn : Bool
  cr : List Int
  cw : List Int
def leftV : Option Int → V
  | none => .non
  | some i => .int i
def fsD (a1 a2 a3 : Addr) (l : V) (b : V) (a4 a5 : Addr) : List (Str × V) := [("_durable", .ref a1), ("_shown", .ref a2), ("_waiting", .ref a3), ("_steps_left", l), ("_is_down", b), ("_cells_read", .ref a4), ("_cells_written", .ref a5)]
section
variable {a1 a2 a3 a4 a5 q : Addr} {l b y : V}
theorem lk_du : List.lookup ("_durable" : Str) (fsD a1 a2 a3 l b a4 a5) = some (.ref a1) := rfl
theorem lk_sh : List.lookup ("_shown" : Str) (fsD a1 a2 a3 l b a4 a5) = some (.ref a2) := rfl
theorem lk_wa : List.lookup ("_waiting" : Str) (fsD a1 a2 a3 l b a4 a5) = some (.ref a3) := rfl
theorem lk_sl : List.lookup ("_steps_left" : Str) (fsD a1 a2 a3 l b a4 a5) = some l := rfl
theorem lk_dn : List.lookup ("_is_down" : Str) (fsD a1 a2 a3 l b a4 a5) = some b := rfl
theorem lk_cr : List.lookup ("_cells_read" : Str) (fsD a1 a2 a3 l b a4 a5) = some (.ref a4) := rfl
theorem lk_cw : List.lookup ("_cells_written" : Str) (fsD a1 a2 a3 l b a4 a5) = some (.ref a5) := rfl
theorem pf_wa : putF "_waiting" (.ref q) (fsD a1 a2 a3 l b a4 a5) = fsD a1 a2 q l b a4 a5 := rfl
theorem pf_sh : putF "_shown" (.ref q) (fsD a1 a2 a3 l b a4 a5) = fsD a1 q a3 l b a4 a5 := rfl
theorem pf_sl : putF "_steps_left" y (fsD a1 a2 a3 l b a4 a5) = fsD a1 a2 a3 y b a4 a5 := rfl
theorem pf_dn : putF "_is_down" y (fsD a1 a2 a3 l b a4 a5) = fsD a1 a2 a3 l y a4 a5 := rfl
theorem pf_cr : putF "_cells_read" (.ref q) (fsD a1 a2 a3 l b a4 a5) = fsD a1 a2 a3 l b q a5 := rfl
theorem pf_cw : putF "_cells_written" (.ref q) (fsD a1 a2 a3 l b a4 a5) = fsD a1 a2 a3 l b a4 q := rfl
end
def NT (ex : List Addr) (H : Hp) : Prop := ∀ a, a ∈ ex → ∀ xs, H a ≠ some (.tup xs)
def Prs (H : Hp) (xs : List V) (es : List (Int × Str)) : Prop := xs.length = es.length ∧ ∀ (i : Nat) x e, xs[i]? = some x → es[i]? = some e → ∃ a, x = .ref a ∧ H a = some (.tup [.int e.1, .str e.2])
theorem Prs.kp {H H' : Hp} {ex : List Addr} {xs : List V} {es : List (Int × Str)} (h : Prs H xs es) (k : Kp ex H H') (t : NT ex H) : Prs H' xs es := ⟨h.1, fun i x e h1 h2 => by
  obtain ⟨a, e1, e2⟩ := h.2 i x e h1 h2
  exact ⟨a, e1, k _ _ (fun z => t a z _ e2) e2⟩⟩
theorem Prs.snoc {H : Hp} {xs : List V} {es : List (Int × Str)} {a : Addr} {e : Int × Str} (h : Prs H xs es) (k : H a = some (.tup [.int e.1, .str e.2])) : Prs H (xs ++ [.ref a]) (es ++ [e]) := ⟨by simp [h.1], fun i x e' h1 h2 => by
  by_cases q : i < xs.length
  · rw [List.getElem?_append_left q] at h1
    rw [List.getElem?_append_left (by rw [← h.1]; exact q)] at h2
    exact h.2 i x e' h1 h2
  · have q' : xs.length ≤ i := by omega
    rw [List.getElem?_append_right q'] at h1
    rw [List.getElem?_append_right (by rw [← h.1]; exact q'), ← h.1] at h2
    have z : i - xs.length = 0 := by
      have := (List.getElem?_eq_some_iff.mp h1).1
      simp at this
      omega
    rw [z] at h1 h2
    cases h1; cases h2
    exact ⟨a, rfl, k⟩⟩
theorem Prs.nil {H : Hp} : Prs H [] [] := ⟨rfl, fun i x e h => by simp at h⟩
theorem Prs.at {H : Hp} {xs : List V} {es : List (Int × Str)} {i : Nat} {x : V} (h : Prs H xs es) (g : xs[i]? = some x) : ∃ e a, es[i]? = some e ∧ x = .ref a ∧ H a = some (.tup [.int e.1, .str e.2]) := by
  have hi : i < es.length := by rw [← h.1]; exact (List.getElem?_eq_some_iff.mp g).1
  obtain ⟨a, e1, e2⟩ := h.2 i x _ g (List.getElem?_eq_getElem hi)
  exact ⟨es[i], a, List.getElem?_eq_getElem hi, e1, e2⟩
def Dk (H : Hp) (C : Addr) (F : List Addr) (p : Addr) (st : DS) : Prop := ∃ dx a1 a2 a3 a4 a5 wr, F = [p, a1, a2, a3, a4, a5] ∧ F.Nodup ∧ H p = some (.ins C dx (fsD a1 a2 a3 (leftV st.left) (.bl st.dn) a4 a5)) ∧
  H a1 = some (.dK st.du) ∧ H a2 = some (.dK st.sh) ∧ H a3 = some (.lst wr) ∧ Prs H wr st.wa ∧ H a4 = some (.lst (st.cr.map V.int)) ∧ H a5 = some (.lst (st.cw.map V.int))
section
variable {H H' : Hp} {C p : Addr} {F F' ex L : List Addr} {st : DS}
theorem Dk.kp (h : Dk H C F p st) (k : Kp ex H H') (n : ∀ a, a ∈ ex → a ∉ F) (t : NT ex H) : Dk H' C F p st := by
  obtain ⟨dx, a1, a2, a3, a4, a5, wr, rfl, nd, hp, h1, h2, h3, hw, h4, h5⟩ := h
  have g : ∀ a o, a ∈ [p, a1, a2, a3, a4, a5] → H a = some o → H' a = some o := fun a o m e => k a o (fun z => n a z m) e
  exact ⟨dx, a1, a2, a3, a4, a5, wr, rfl, nd, g _ _ (by simp) hp, g _ _ (by simp) h1, g _ _ (by simp) h2, g _ _ (by simp) h3, hw.kp k t, g _ _ (by simp) h4, g _ _ (by simp) h5⟩
theorem Dk.same (h : Dk H C F p st) (s : Same H H') : Dk H' C F p st := h.kp (ex := []) (Same.kp s) (fun _ z => nomatch z) (fun _ z => nomatch z)
theorem Dk.nt (h : Dk H C F p st) : NT F H := by
  obtain ⟨dx, a1, a2, a3, a4, a5, wr, rfl, nd, hp, h1, h2, h3, hw, h4, h5⟩ := h
  intro a m xs e
  simp only [List.mem_cons, List.not_mem_nil, or_false] at m
  rcases m with rfl | rfl | rfl | rfl | rfl | rfl
  · rw [hp] at e; cases e
  · rw [h1] at e; cases e
  · rw [h2] at e; cases e
  · rw [h3] at e; cases e
  · rw [h4] at e; cases e
  · rw [h5] at e; cases e
theorem Dk.live (h : Dk H C F p st) : ∀ a, a ∈ F → ∃ o, H a = some o := by
  obtain ⟨dx, a1, a2, a3, a4, a5, wr, rfl, nd, hp, h1, h2, h3, hw, h4, h5⟩ := h
  intro a m
  simp only [List.mem_cons, List.not_mem_nil, or_false] at m
  rcases m with rfl | rfl | rfl | rfl | rfl | rfl
  · exact ⟨_, hp⟩
  · exact ⟨_, h1⟩
  · exact ⟨_, h2⟩
  · exact ⟨_, h3⟩
  · exact ⟨_, h4⟩
  · exact ⟨_, h5⟩
theorem Dk.nd (h : Dk H C F p st) : F.Nodup := by
  obtain ⟨dx, a1, a2, a3, a4, a5, wr, rfl, nd, _⟩ := h
  exact nd
theorem Dk.mem (h : Dk H C F p st) : p ∈ F := by
  obtain ⟨dx, a1, a2, a3, a4, a5, wr, rfl, nd, _⟩ := h
  exact List.mem_cons_self
theorem Dk.ins (h : Dk H C F p st) : ∃ dx a1 a2 a3 a4 a5, H p = some (.ins C dx (fsD a1 a2 a3 (leftV st.left) (.bl st.dn) a4 a5)) := by
  obtain ⟨dx, a1, a2, a3, a4, a5, wr, rfl, nd, hp, _⟩ := h
  exact ⟨_, _, _, _, _, _, hp⟩
/-- what a method may have done to the heap: F, the disk's parts before, F' after -/
structure Fr (F F' : List Addr) (H H' : Hp) : Prop where
  kp : Kp F H H'
  sub : ∀ a, a ∈ F' → a ∈ F ∨ H a = none
theorem Fr.refl : Fr F F H H := ⟨Kp.refl, fun _ z => .inl z⟩
theorem Fr.same {H1 : Hp} (f : Fr F F' H H1) (s : Same H1 H') : Fr F F' H H' := ⟨Kp.same f.kp s, f.sub⟩
theorem Fr.pre {H1 : Hp} (s : Same H H1) (f : Fr F F' H1 H') : Fr F F' H H' := ⟨Kp.trans (Same.kp s) f.kp, fun a z => (f.sub a z).imp id fun e => Same.none s e⟩
theorem Fr.nodup (f : Fr F F' H H') (nd : (L ++ F).Nodup) (nf : F'.Nodup) (lv : ∀ a, a ∈ L → ∃ o, H a = some o) : (L ++ F').Nodup := by
  rw [List.nodup_append] at nd ⊢
  refine ⟨nd.1, nf, fun a ha b hb e => ?_⟩
  subst e
  rcases f.sub a hb with z | z
  · exact nd.2.2 a ha a z rfl
  · obtain ⟨o, q⟩ := lv a ha
    rw [q] at z; cases z
theorem Fr.get {a : Addr} {o : HO} (f : Fr F F' H H') (nd : (L ++ F).Nodup) (m : a ∈ L) (e : H a = some o) : H' a = some o := by
  rw [List.nodup_append] at nd
  exact f.kp a o (fun z => nd.2.2 a m a z rfl) e
theorem out_of {a : Addr} (nd : (L ++ F).Nodup) (m : a ∈ L) : a ∉ F := fun z => by
  rw [List.nodup_append] at nd
  exact nd.2.2 a m a z rfl
theorem nd6 {p a1 a2 a3 a4 a5 : Addr} (h : [p, a1, a2, a3, a4, a5].Nodup) : (p ≠ a1 ∧ p ≠ a2 ∧ p ≠ a3 ∧ p ≠ a4 ∧ p ≠ a5) ∧ (a1 ≠ a2 ∧ a1 ≠ a3 ∧ a1 ≠ a4 ∧ a1 ≠ a5) ∧ (a2 ≠ a3 ∧ a2 ≠ a4 ∧ a2 ≠ a5) ∧ (a3 ≠ a4 ∧ a3 ≠ a5) ∧ a4 ≠ a5 := by
  simpa [List.nodup_cons] using h
theorem of6 {p a1 a2 a3 a4 a5 : Addr} (h : (p ≠ a1 ∧ p ≠ a2 ∧ p ≠ a3 ∧ p ≠ a4 ∧ p ≠ a5) ∧ (a1 ≠ a2 ∧ a1 ≠ a3 ∧ a1 ≠ a4 ∧ a1 ≠ a5) ∧ (a2 ≠ a3 ∧ a2 ≠ a4 ∧ a2 ≠ a5) ∧ (a3 ≠ a4 ∧ a3 ≠ a5) ∧ a4 ≠ a5) : [p, a1, a2, a3, a4, a5].Nodup := by
  simpa [List.nodup_cons] using h
end
/-! ### numbers and texts of cells -/
def inD (lo hi : Int) : Da → Bool
  | .int i => decide (lo ≤ i) && decide (i ≤ hi)
  | _ => false
theorem inD_int {lo hi i : Int} (h1 : lo ≤ i) (h2 : i ≤ hi) : inD lo hi (.int i) = true := by
  show (decide (lo ≤ i) && decide (i ≤ hi)) = true
  rw [decide_eq_true h1, decide_eq_true h2]
  rfl
def sp_is_within : Sp := fun vs H Q _ => ∃ (ex : List Addr) (v : V) (d : Da) (lo hi : Int), vs = [v, .int lo, .int hi] ∧ Rp ex H v d ∧ Q (.bl (inD lo hi d)) H
theorem ok_is_within {f : Addr} {fd : FuncData} (F : Fun K "is_within" "is_within" s_is_within f fd) (T : Txt K mg C_Crashed C_Disk tk_GREATEST_FATE tk_LAST_CELL tk_MOST_CHARACTERS tk_MOST_FATES tk_MOST_STEPS C_BadValue fI_BadValue) (O_is_integer : Ok P w K mg base 1 "is_integer" ["value"] (sp_is_integer)) : FnOk P w K mg base CX0 2 f fd ["value", "least", "most"] sp_is_within := by
  refine F.ok sc_is_within (fun vs H Q E h => ?_) (fun cdv A outer s H vs Q E hr h => ?_)
  · obtain ⟨ex, v, d, lo, hi, rfl, _⟩ := h
    rfl
  · obtain ⟨ex, v, d, lo, hi, rfl, h, k⟩ := h
    refine ⟨_, d_is_within hr T O_is_integer, ?_⟩
    unfold t_is_within
    refine x_start (σ' := [some v, some (.int lo), some (.int hi)]) rfl ?_
    walk_at "sts"
    refine ⟨ex, v, d, rfl, h, ?_⟩
    walk_at "sts"
    cases i1 : d.isInt with
    | false =>
      walk_at "sts"
      have e : inD lo hi d = false := by cases d <;> first | rfl | (exact absurd i1.symm Bool.false_ne_true)
      rw [e] at k
      exact k
    | true =>
      walk_at "sts"
      cases d with
      | int i =>
        cases h.intI
        have k' : Q (.bl (decide (lo ≤ i) && decide (i ≤ hi))) H := k
        walk_at "sts"
        refine x_dec (fun c => ?_) (fun c => ?_)
        · walk_at "sts"
          rw [decide_eq_true c] at k'
          exact k'
        · walk_at "sts"
          rw [decide_eq_false c] at k'
          exact k'
      | _ => exact absurd i1 Bool.false_ne_true
def sp_is_cell : Sp := fun vs H Q _ => ∃ (ex : List Addr) (v : V) (d : Da), vs = [v] ∧ Rp ex H v d ∧ Q (.bl (inD 0 1000000 d)) H
theorem ok_is_cell {f : Addr} {fd : FuncData} (F : Fun K "is_cell" "is_cell" s_is_cell f fd) (T : Txt K mg C_Crashed C_Disk tk_GREATEST_FATE tk_LAST_CELL tk_MOST_CHARACTERS tk_MOST_FATES tk_MOST_STEPS C_BadValue fI_BadValue) (O_is_within : Ok P w K mg base 2 "is_within" ["value", "least", "most"] (sp_is_within)) : FnOk P w K mg base CX0 3 f fd ["value"] sp_is_cell := by
  refine F.ok sc_is_cell (fun vs H Q E h => ?_) (fun cdv A outer s H vs Q E hr h => ?_)
  · obtain ⟨ex, v, d, rfl, _⟩ := h
    rfl
  · obtain ⟨ex, v, d, rfl, h, k⟩ := h
    refine ⟨_, d_is_cell hr T O_is_within, ?_⟩
    unfold t_is_cell
    refine x_start (σ' := [some v]) rfl ?_
    walk_at "sts"
    exact ⟨ex, v, d, 0, 1000000, rfl, h, k⟩
/-- what is no text of a cell, by its kind or its length -/
def NoTx (d : Da) : Prop := d.isa "str" = false ∨ ∃ z, d = .str z ∧ 2000 < z.length ∧ z.length ≤ 100000
theorem x_bm0 {T : String} {r : V → List V → Hp → VK → Prop} {te : TE} {σ : L2.St} {H : Hp} {Q : VK} (q : te σ H fun x H1 => tyV K T x H1 ∧ r x [] H1 Q) : tBM0 K T r te σ H Q := q
def sp_is_cell_text : Sp := fun vs H Q _ => ∃ (ex : List Addr) (v : V) (d : Da), vs = [v] ∧ Rp ex H v d ∧ ((NoTx d ∧ Q (.bl false) H) ∨ ∃ z, d = .str z ∧ z.length ≤ 2000 ∧ okT z ∧ ∀ H', Same H H' → Q (.bl true) H')
theorem ok_is_cell_text {f : Addr} {fd : FuncData} (F : Fun K "is_cell_text" "is_cell_text" s_is_cell_text f fd) (T : Txt K mg C_Crashed C_Disk tk_GREATEST_FATE tk_LAST_CELL tk_MOST_CHARACTERS tk_MOST_FATES tk_MOST_STEPS C_BadValue fI_BadValue)  : FnOk P w K mg base CX0 1 f fd ["value"] sp_is_cell_text := by
  refine F.ok sc_is_cell_text (fun vs H Q E h => ?_) (fun cdv A outer s H vs Q E hr h => ?_)
  · obtain ⟨ex, v, d, rfl, _⟩ := h
    rfl
  · obtain ⟨ex, v, d, rfl, h, k⟩ := h
    refine ⟨_, d_is_cell_text hr T , ?_⟩
    unfold t_is_cell_text
    refine x_start (σ' := [some v, none]) rfl ?_
    walk_at "sts"
    rcases k with ⟨nt, k⟩ | ⟨z, rfl, lz, oz, k⟩
    · rcases nt with n | ⟨z, rfl, l1, l2⟩
      · refine x_isaB h (by decide) (b := false) n ?_
        walk_at "sts"
        exact k
      · refine x_isaB h (by decide) (b := true) (by walk_at "isa") ?_
        cases h.strI
        walk_at "sts"
        refine x_lenStr l2 ?_
        walk_at "sts"
        refine x_dec (fun c => ?_) (fun c => absurd (show (2000 : Int) < (z.length : Int) by omega) c)
        walk_at "sts"
        exact k
    · refine x_isaB h (by decide) (b := true) (by walk_at "isa") ?_
      cases h.strI
      walk_at "sts"
      refine x_lenStr (by omega) ?_
      walk_at "sts"
      refine x_dec (fun c => absurd c (by omega)) (fun c => ?_)
      walk_at "sts"
      refine ⟨rfl, ?_⟩
      walk_at "sts"
      intro p hp
      walk_at "sts"
      refine ⟨upd_same, [(.inl 10, .non), (.inl 37, .str "\n")], rfl, by decide, ?_⟩
      walk_at "sts"
      refine ⟨z.cps.toList, p, _, by rw [SX.S_tl], rfl, upd_same, rfl, fun c c1 c2 => ?_, ?_, fun c hc => okC_lt (oz c hc), ?_⟩
      · have e : mergeK [] [(.inl 10, V.non), (.inl 37, V.str "\n")] = [(.inl 10, V.non), (.inl 37, V.str "\n")] := rfl
        rw [e]
        refine (valV_neg (fun z => c1 (by injection z with z; omega))).trans ((valV_neg (fun z => c2 (by injection z with z; omega))).trans valV_nil)
      · show z.cps.toList.length ≤ _
        have : z.cps.toList.length = z.length := by simp [Str.length]
        omega
      · walk_at "sts"
        refine x_bm0 ?_
        walk_at "sts"
        refine ⟨rfl, _, rfl, rfl, trivial, ?_⟩
        rw [no10_ascii oz]
        walk_at "sts"
        refine x_bm0 ?_
        walk_at "sts"
        refine ⟨rfl, _, rfl, rfl, trivial, ?_⟩
        rw [no10_print oz]
        exact k _ (Same.own (Same.new (Same.refl _) hp) hp)
theorem x_notx {v : V} {d : Da} {H : Hp} {Q : VK} {E : XK} {ex : List Addr} (h : Rp ex H v d) (n : NoTx d) (q : Q (.bl false) H) : sp_is_cell_text [v] H Q E := ⟨ex, v, d, rfl, h, .inl ⟨n, q⟩⟩
theorem x_tx {z : Str} {H : Hp} {Q : VK} {E : XK} (l : z.length ≤ 2000) (o : okT z) (q : ∀ H', Same H H' → Q (.bl true) H') : sp_is_cell_text [.str z] H Q E := ⟨[], _, .str z, rfl, .str z, .inr ⟨z, rfl, l, o, q⟩⟩
/-! ### the methods of a disk -/
theorem x_sf {K : PySem.W.Frag} {ta tv : TE} {f : Str} {σ : L2.St} {H : Hp} {n b c : L2.St → Hp → Prop} {r : VK} (q : tv σ H fun y H1 => ta σ H1 fun x H2 => ∃ a C dx fs, x = .ref a ∧ H2 a = some (.ins C dx fs) ∧ Cls K C ∧ NoAttr K C f ∧ fs.length < 1000 ∧ n σ (upd H2 a (.ins C dx (putF f y fs)))) : sFld K ta tv f ⟨n, r, b, c⟩ σ H := q
theorem x_sfE {K : PySem.W.Frag} {C dx a : Addr} {fs fs' : List (Str × V)} {f : Str} {y : V} {σ : L2.St} {H : Hp} {n : L2.St → Hp → Prop} (h : H a = some (.ins C dx fs)) (k : Cls K C) (na : NoAttr K C f) (l : fs.length < 1000) (e : putF f y fs = fs') (q : n σ (upd H a (.ins C dx fs'))) :
    ∃ a' C dx fs, V.ref a = .ref a' ∧ H a' = some (.ins C dx fs) ∧ Cls K C ∧ NoAttr K C f ∧ fs.length < 1000 ∧ n σ (upd H a' (.ins C dx (putF f y fs))) := ⟨a, C, dx, fs, rfl, h, k, na, l, by rw [e]; exact q⟩
theorem x_sfG {K : PySem.W.Frag} {C dx a : Addr} {fs fs' : List (Str × V)} {f : Str} {y : V} {σ : L2.St} {H : Hp} {n : L2.St → Hp → Prop} (h : H a = some (.ins C dx fs)) (k : Cls K C) (na : NoAttr K C f) (l : fs.length < 1000) (e : putF f y fs = fs') (q : ∀ H', Kp [a] H H' → H' a = some (.ins C dx fs') → n σ H') :
    ∃ a' C dx fs, V.ref a = .ref a' ∧ H a' = some (.ins C dx fs) ∧ Cls K C ∧ NoAttr K C f ∧ fs.length < 1000 ∧ n σ (upd H a' (.ins C dx (putF f y fs))) := x_sfE h k na l e (q _ (Kp.refl.mut (List.mem_singleton.mpr rfl)) upd_same)
theorem x_mklN {xs : List V} {m : Nat} {H : Hp} {Q : VK} (hm : xs.length = m) (h : m ≤ 100000) (q : ∀ p H', Same H H' → H p = none → H' p = some (.lst xs) → Q (.ref p) H') : mkL xs H Q := x_mkl hm h fun p hp => q p _ (Same.new (Same.refl _) hp) hp upd_same
theorem x_dnewN {σ : L2.St} {H : Hp} {Q : VK} (q : ∀ p H', Same H H' → H p = none → H' p = some (.dK []) → Q (.ref p) H') : tDNewK σ H Q := fun p hp => q p _ (Same.new (Same.refl _) hp) hp upd_same
theorem x_dnew {σ : L2.St} {H : Hp} {Q : VK} (q : ∀ p, H p = none → Q (.ref p) (upd H p (.dK []))) : tDNewK σ H Q := q
theorem len_fsD {a1 a2 a3 a4 a5 : Addr} {l b : V} : (fsD a1 a2 a3 l b a4 a5).length < 1000 := (by decide : 7 < 1000)
theorem kp_upd {ex : List Addr} {H : Hp} {a : Addr} {o : HO} (m : a ∈ ex) : Kp ex H (upd H a o) := Kp.refl.mut m
theorem nt_one {H : Hp} {a : Addr} {o : HO} (e : H a = some o) (n : ∀ xs, o ≠ .tup xs) : NT [a] H := fun b m xs z => by
  rw [List.mem_singleton] at m
  subst m
  rw [e] at z
  cases z
  exact n xs rfl
theorem Prs.upd {H : Hp} {xs : List V} {es : List (Int × Str)} {a : Addr} {o u : HO} (h : Prs H xs es) (e : H a = some o) (n : ∀ xs, o ≠ .tup xs) : Prs (upd H a u) xs es := h.kp (kp_upd List.mem_cons_self) (nt_one e n)
theorem Prs.new {H : Hp} {xs : List V} {es : List (Int × Str)} {a : Addr} {u : HO} (h : Prs H xs es) (e : H a = none) : Prs (L2.upd H a u) xs es := h.kp (ex := []) (Same.kp (Same.new (Same.refl _) e)) (fun _ z => nomatch z)
def DS.new : DS := ⟨[], [], [], none, false, [], []⟩
def sp_Disk____init__ (C : Addr) : Sp := fun vs H Q _ => ∃ (p dx : Addr), vs = [.ref p] ∧ H p = some (.ins C dx []) ∧ ∀ H' F, Kp [p] H H' → Dk H' C F p DS.new → (∀ a, a ∈ F → a = p ∨ H a = none) → Q .non H'
theorem ok_Disk____init__ {f : Addr} {fd : FuncData} (F : Fun K "__init__" "Disk.__init__" s_Disk____init__ f fd) (T : Txt K mg C_Crashed C_Disk tk_GREATEST_FATE tk_LAST_CELL tk_MOST_CHARACTERS tk_MOST_FATES tk_MOST_STEPS C_BadValue fI_BadValue)  : FnOk P w K mg base CX0 1 f fd ["self"] (sp_Disk____init__ C_Disk) := by
  refine F.ok sc_Disk____init__ (fun vs H Q E h => ?_) (fun cdv A outer s H vs Q E hr h => ?_)
  · obtain ⟨p, dx, rfl, _⟩ := h
    rfl
  · obtain ⟨p, dx, rfl, hp, k⟩ := h
    refine ⟨_, d_Disk____init__ hr T , ?_⟩
    unfold t_Disk____init__
    refine x_start (σ' := [some (.ref p)]) rfl ?_
    walk_at "sts"
    refine x_sf (x_dnewN fun b0 G0 s0 z0 e0 => ?_)
    walk_at "sts"
    have n0 : b0 ≠ p := new_ne z0 hp
    refine x_sfG (s0 _ _ hp) T.o_Disk T.f_Disk_durable (Nat.le_of_ble_eq_true rfl) rfl fun I0 k0 y0 => ?_
    walk_at "sts"
    have e0_0 := k0 _ _ (not1 n0) e0
    refine x_sf (x_dnewN fun b1 G1 s1 z1 e1 => ?_)
    walk_at "sts"
    have n1 : b1 ≠ p := new_ne z1 y0
    have n1_0 : b1 ≠ b0 := new_ne z1 e0_0
    refine x_sfG (s1 _ _ y0) T.o_Disk T.f_Disk_shown (Nat.le_of_ble_eq_true rfl) rfl fun I1 k1 y1 => ?_
    walk_at "sts"
    have e0_1 := k1 _ _ (not1 n0) (s1 _ _ e0_0)
    have e1_1 := k1 _ _ (not1 n1) e1
    refine x_sf ?_
    walk_at "sts"
    refine x_mklN rfl (by decide) fun b2 G2 s2 z2 e2 => ?_
    walk_at "sts"
    have n2 : b2 ≠ p := new_ne z2 y1
    have n2_0 : b2 ≠ b0 := new_ne z2 e0_1
    have n2_1 : b2 ≠ b1 := new_ne z2 e1_1
    refine x_sfG (s2 _ _ y1) T.o_Disk T.f_Disk_waiting (Nat.le_of_ble_eq_true rfl) rfl fun I2 k2 y2 => ?_
    walk_at "sts"
    have e0_2 := k2 _ _ (not1 n0) (s2 _ _ e0_1)
    have e1_2 := k2 _ _ (not1 n1) (s2 _ _ e1_1)
    have e2_2 := k2 _ _ (not1 n2) e2
    refine x_sf ?_
    walk_at "sts"
    refine x_sfG y2 T.o_Disk T.f_Disk_steps_left (Nat.le_of_ble_eq_true rfl) rfl fun I3 k3 y3 => ?_
    walk_at "sts"
    have e0_3 := k3 _ _ (not1 n0) e0_2
    have e1_3 := k3 _ _ (not1 n1) e1_2
    have e2_3 := k3 _ _ (not1 n2) e2_2
    refine x_sf ?_
    walk_at "sts"
    refine x_sfG y3 T.o_Disk T.f_Disk_is_down (Nat.le_of_ble_eq_true rfl) rfl fun I4 k4 y4 => ?_
    walk_at "sts"
    have e0_4 := k4 _ _ (not1 n0) e0_3
    have e1_4 := k4 _ _ (not1 n1) e1_3
    have e2_4 := k4 _ _ (not1 n2) e2_3
    refine x_sf ?_
    walk_at "sts"
    refine x_mklN rfl (by decide) fun b5 G5 s5 z5 e5 => ?_
    walk_at "sts"
    have n5 : b5 ≠ p := new_ne z5 y4
    have n5_0 : b5 ≠ b0 := new_ne z5 e0_4
    have n5_1 : b5 ≠ b1 := new_ne z5 e1_4
    have n5_2 : b5 ≠ b2 := new_ne z5 e2_4
    refine x_sfG (s5 _ _ y4) T.o_Disk T.f_Disk_cells_read (Nat.le_of_ble_eq_true rfl) rfl fun I5 k5 y5 => ?_
    walk_at "sts"
    have e0_5 := k5 _ _ (not1 n0) (s5 _ _ e0_4)
    have e1_5 := k5 _ _ (not1 n1) (s5 _ _ e1_4)
    have e2_5 := k5 _ _ (not1 n2) (s5 _ _ e2_4)
    have e5_5 := k5 _ _ (not1 n5) e5
    refine x_sf ?_
    walk_at "sts"
    refine x_mklN rfl (by decide) fun b6 G6 s6 z6 e6 => ?_
    walk_at "sts"
    have n6 : b6 ≠ p := new_ne z6 y5
    have n6_0 : b6 ≠ b0 := new_ne z6 e0_5
    have n6_1 : b6 ≠ b1 := new_ne z6 e1_5
    have n6_2 : b6 ≠ b2 := new_ne z6 e2_5
    have n6_5 : b6 ≠ b5 := new_ne z6 e5_5
    refine x_sfG (σ := []) (n := fun _ H' => Q .non H') (s6 _ _ y5) T.o_Disk T.f_Disk_cells_written (Nat.le_of_ble_eq_true rfl) rfl fun I6 k6 y6 => ?_
    show Q V.non I6
    have e0_6 := k6 _ _ (not1 n0) (s6 _ _ e0_5)
    have e1_6 := k6 _ _ (not1 n1) (s6 _ _ e1_5)
    have e2_6 := k6 _ _ (not1 n2) (s6 _ _ e2_5)
    have e5_6 := k6 _ _ (not1 n5) (s6 _ _ e5_5)
    have e6_6 := k6 _ _ (not1 n6) e6
    have kk : Kp [p] H I6 := ((((((((((((Kp.refl).same s0).trans k0).same s1).trans k1).same s2).trans k2).trans k3).trans k4).same s5).trans k5).same s6).trans k6
    have w0 : H b0 = none := Kp.none (ex := [p]) (Kp.refl) (not1 n0) z0
    have w1 : H b1 = none := Kp.none (ex := [p]) (((Kp.refl).same s0).trans k0) (not1 n1) z1
    have w2 : H b2 = none := Kp.none (ex := [p]) (((((Kp.refl).same s0).trans k0).same s1).trans k1) (not1 n2) z2
    have w5 : H b5 = none := Kp.none (ex := [p]) (((((((((Kp.refl).same s0).trans k0).same s1).trans k1).same s2).trans k2).trans k3).trans k4) (not1 n5) z5
    have w6 : H b6 = none := Kp.none (ex := [p]) (((((((((((Kp.refl).same s0).trans k0).same s1).trans k1).same s2).trans k2).trans k3).trans k4).same s5).trans k5) (not1 n6) z6
    refine k I6 [p, b0, b1, b2, b5, b6] kk ⟨dx, b0, b1, b2, b5, b6, [], rfl, of6 ⟨⟨Ne.symm n0, Ne.symm n1, Ne.symm n2, Ne.symm n5, Ne.symm n6⟩, ⟨Ne.symm n1_0, Ne.symm n2_0, Ne.symm n5_0, Ne.symm n6_0⟩, ⟨Ne.symm n2_1, Ne.symm n5_1, Ne.symm n6_1⟩, ⟨Ne.symm n5_2, Ne.symm n6_2⟩, Ne.symm n6_5⟩, y6, e0_6, e1_6, e2_6, Prs.nil, e5_6, e6_6⟩ fun a m => ?_
    simp only [List.mem_cons, List.not_mem_nil, or_false] at m
    rcases m with rfl | rfl | rfl | rfl | rfl | rfl
    · exact .inl rfl
    · exact .inr w0
    · exact .inr w1
    · exact .inr w2
    · exact .inr w5
    · exact .inr w6
/-- the disk is down, or goes down at the next step -/
def DS.dead (st : DS) : Bool := st.dn || decide (st.left = some 0)
theorem kp_in {ex F : List Addr} {H H' : Hp} (k : Kp ex H H') (m : ∀ a, a ∈ ex → a ∈ F) : Kp F H H' := k.mono m
/-- the disk with other steps, or down -/
theorem Dk.setp {H H' : Hp} {C p dx a1 a2 a3 a4 a5 : Addr} {F : List Addr} {wr : List V} {st : DS} {l : Option Int} {b : Bool} (e : F = [p, a1, a2, a3, a4, a5]) (nd : F.Nodup) (h1 : H a1 = some (.dK st.du)) (h2 : H a2 = some (.dK st.sh)) (h3 : H a3 = some (.lst wr)) (hw : Prs H wr st.wa)
    (h4 : H a4 = some (.lst (st.cr.map V.int))) (h5 : H a5 = some (.lst (st.cw.map V.int))) {o : HO} (hp0 : H p = some o) (no : ∀ xs, o ≠ .tup xs) (k : Kp [p] H H') (hp : H' p = some (.ins C dx (fsD a1 a2 a3 (leftV l) (.bl b) a4 a5))) : Dk H' C F p { st with left := l, dn := b } := by
  subst e
  obtain ⟨⟨n1, n2, n3, n4, n5⟩, _⟩ := nd6 nd
  exact ⟨dx, a1, a2, a3, a4, a5, wr, rfl, nd, hp, k _ _ (not1 (Ne.symm n1)) h1, k _ _ (not1 (Ne.symm n2)) h2, k _ _ (not1 (Ne.symm n3)) h3, hw.kp k (nt_one hp0 no), k _ _ (not1 (Ne.symm n4)) h4, k _ _ (not1 (Ne.symm n5)) h5⟩
def sp_Disk___step (C Cr : Addr) : Sp := fun vs H Q E => ∃ (F : List Addr) (p : Addr) (st : DS), vs = [.ref p] ∧ Dk H C F p st ∧
  (st.dead = true → ∀ H', Fr F F H H' → Dk H' C F p { st with dn := true } → E (.ref Cr) none H') ∧ (st.dead = false → ∀ H', Fr F F H H' → Dk H' C F p { st with left := st.left.map (· - 1) } → Q .non H')
theorem ok_Disk___step {f : Addr} {fd : FuncData} (F : Fun K "_step" "Disk._step" s_Disk___step f fd) (T : Txt K mg C_Crashed C_Disk tk_GREATEST_FATE tk_LAST_CELL tk_MOST_CHARACTERS tk_MOST_FATES tk_MOST_STEPS C_BadValue fI_BadValue)  : FnOk P w K mg base (L2.CX P w) 3 f fd ["self"] (sp_Disk___step C_Disk C_Crashed) := by
  refine F.okX sc_Disk___step (fun vs H Q E h => ?_) (fun cdv A outer s H vs Q E hr h => ?_)
  · obtain ⟨F, p, st, rfl, _⟩ := h
    rfl
  · obtain ⟨F, p, st, rfl, hD, k1, k2⟩ := h
    refine ⟨_, d_Disk___step hr T , ?_⟩
    unfold t_Disk___step
    refine x_start (σ' := [some (.ref p)]) rfl ?_
    have pF := hD.mem
    have kpF : ∀ H', Kp [p] H H' → Fr F F H H' := fun H' k => ⟨k.mono fun a m => by rw [List.mem_singleton.mp m]; exact pF, fun a m => .inl m⟩
    obtain ⟨du, sh, wa, left, dn, cr, cw⟩ := st
    refine x_cut (fun σ' H' => σ' = [some (.ref p)] ∧ Fr F F H H' ∧ Dk H' C_Disk F p ⟨du, sh, wa, left, dn || decide (left = some 0), cr, cw⟩) ?_ ?_
    · obtain ⟨dx, a1, a2, a3, a4, a5, wr, eF, nd, hp, h1, h2, h3, hw, h4, h5⟩ := id hD
      walk_at "sts"
      refine x_fld rfl hp T.o_Disk T.f_Disk_steps_left lk_sl ?_
      walk_at "sts"
      cases left with
      | none =>
        refine x_eqV rfl ?_
        rw [decide_eq_false (by exact fun z => nomatch z)]
        walk_at "sts"
        refine ⟨rfl, Fr.refl, ?_⟩
        rw [decide_eq_false (fun z => nomatch z), Bool.or_false]
        exact hD
      | some i =>
        refine x_eqI ?_
        walk_at "sts"
        refine x_dec (fun c => ?_) (fun c => ?_)
        · subst c
          walk_at "sts"
          refine x_sf ?_
          walk_at "sts"
          refine x_sfG (σ := [some (.ref p)]) (n := fun σ' H' => σ' = [some (.ref p)] ∧ Fr F F H H' ∧ Dk H' C_Disk F p ⟨du, sh, wa, some 0, dn || decide (some (0 : Int) = some 0), cr, cw⟩) hp T.o_Disk T.f_Disk_is_down len_fsD pf_dn fun H' kk hp' => ?_
          refine ⟨rfl, kpF _ kk, ?_⟩
          rw [decide_eq_true rfl, Bool.or_true]
          exact Dk.setp (st := ⟨du, sh, wa, some 0, dn, cr, cw⟩) (l := some 0) (b := true) eF nd h1 h2 h3 hw h4 h5 hp (fun _ z => nomatch z) kk hp'
        · walk_at "sts"
          refine ⟨rfl, Fr.refl, ?_⟩
          rw [decide_eq_false (fun z => c (by injection z)), Bool.or_false]
          exact hD
    · rintro σ' H1 ⟨rfl, f1, D1⟩
      obtain ⟨dx, a1, a2, a3, a4, a5, wr, eF, nd, hp, h1, h2, h3, hw, h4, h5⟩ := id D1
      walk_at "sts"
      refine x_fld rfl hp T.o_Disk T.f_Disk_is_down lk_dn ?_
      walk_at "sts"
      cases hd : (dn || decide (left = some 0)) with
      | true =>
        walk_at "sts"
        refine x_raise0 (k1 hd H1 f1 ?_)
        rw [hd] at D1
        exact D1
      | false =>
        have hn : dn = false := (Bool.or_eq_false_iff.mp hd).1
        walk_at "sts"
        refine x_fld rfl hp T.o_Disk T.f_Disk_steps_left lk_sl ?_
        rw [hd] at D1
        subst hn
        cases left with
        | none =>
          walk_at "sts"
          rw [show (!decide (leftV none = V.non)) = false from rfl]
          walk_at "sts"
          exact k2 hd H1 f1 D1
        | some i =>
          walk_at "sts"
          rw [show (!decide (leftV (some i) = V.non)) = true from rfl]
          walk_at "sts"
          refine x_sf ?_
          walk_at "sts"
          refine x_fld rfl hp T.o_Disk T.f_Disk_steps_left lk_sl ?_
          refine x_c ?_
          refine x_sub (i := i) (j := 1) ?_
          walk_at "sts"
          refine x_sfG (σ := []) (n := fun _ H' => Q .non H') hp T.o_Disk T.f_Disk_steps_left len_fsD pf_sl fun H' kk hp' => ?_
          refine k2 hd H' ⟨Kp.trans f1.kp (kk.mono fun a m => by rw [List.mem_singleton.mp m]; exact pF), fun a m => .inl m⟩ ?_
          have z := Dk.setp (st := ⟨du, sh, wa, some i, false, cr, cw⟩) (l := some (i - 1)) (b := _) eF nd h1 h2 h3 hw h4 h5 hp (fun _ z => nomatch z) kk hp'
          rw [hd] at z
          exact z
theorem Fr.up {F F' G : List Addr} {H H1 H2 : Hp} (f : Fr F F' H H1) (g : Fr F' G H1 H2) : Fr F G H H2 := by
  refine ⟨fun a o n e => ?_, fun a m => ?_⟩
  · have e1 := f.kp a o n e
    refine g.kp a o (fun m => ?_) e1
    rcases f.sub a m with z | z
    · exact n z
    · rw [e] at z; cases z
  · rcases g.sub a m with z | z
    · exact f.sub a z
    · by_cases q : a ∈ F
      · exact .inl q
      · exact .inr (Kp.none f.kp q z)
theorem x_mkTN {xs : List V} {H : Hp} {Q : VK} (h : xs.length ≤ 100000) (q : ∀ p H', Same H H' → H p = none → H' p = some (.tup xs) → Q (.ref p) H') : mkT xs H Q := ⟨sz h, fun p hp => q p _ (Same.new (Same.refl _) hp) hp upd_same⟩
def DS.step (st : DS) : DS := { st with left := st.left.map (· - 1) }
def sp_Disk__write (C Cr Bv : Addr) : Sp := fun vs H Q E => ∃ (ex F : List Addr) (p : Addr) (st : DS) (v u : V) (d1 d2 : Da), vs = [.ref p, v, u] ∧ Dk H C F p st ∧ Rp ex H v d1 ∧ Rp ex H u d2 ∧
  (inD 0 1000000 d1 = false → ∀ d : Addr, H d = none → E (.ref Bv) (some d) (upd H d (.xd [(("at" : Str), .int 0)]))) ∧
  (inD 0 1000000 d1 = true → NoTx d2 → ∀ d : Addr, H d = none → E (.ref Bv) (some d) (upd H d (.xd [(("at" : Str), .int 1)]))) ∧
  (inD 0 1000000 d1 = true → (NoTx d2 ∨ ∃ c z, d1 = .int c ∧ d2 = .str z ∧ z.length ≤ 2000 ∧ okT z ∧
    (st.dead = true → ∀ H', Fr F F H H' → Dk H' C F p { st with dn := true } → E (.ref Cr) none H') ∧
    (st.dead = false → st.wa.length < 100000 ∧ st.sh.length < 100000 ∧ st.cw.length < 100000 ∧ ∀ H', Fr F F H H' → Dk H' C F p { st.step with wa := st.wa ++ [(c, z)], sh := putK st.sh (.inl c) (.str z), cw := st.cw ++ [c] } → Q .non H')))
theorem ok_Disk__write {f : Addr} {fd : FuncData} (F : Fun K "write" "Disk.write" s_Disk__write f fd) (T : Txt K mg C_Crashed C_Disk tk_GREATEST_FATE tk_LAST_CELL tk_MOST_CHARACTERS tk_MOST_FATES tk_MOST_STEPS C_BadValue fI_BadValue) (O_Disk___step : OkM (L2.CX P w) P w K mg base 3 C_Disk "_step" ["self"] (sp_Disk___step C_Disk C_Crashed)) (O_is_cell : Ok P w K mg base 3 "is_cell" ["value"] (sp_is_cell)) (O_is_cell_text : Ok P w K mg base 1 "is_cell_text" ["value"] (sp_is_cell_text)) : FnOk P w K mg base (L2.CX P w) 4 f fd ["self", "cell", "text"] (sp_Disk__write C_Disk C_Crashed C_BadValue) := by
  refine F.okX sc_Disk__write (fun vs H Q E h => ?_) (fun cdv A outer s H vs Q E hr h => ?_)
  · obtain ⟨ex, F, p, st, v, u, d1, d2, rfl, _⟩ := h
    rfl
  · obtain ⟨ex, F, p, st, v, u, d1, d2, rfl, hD, r1, r2, k0, k1, k2⟩ := h
    refine ⟨_, d_Disk__write hr T O_Disk___step O_is_cell O_is_cell_text, ?_⟩
    unfold t_Disk__write
    refine x_start (σ' := [some (.ref p), some v, some u]) rfl ?_
    walk_at "sts"
    refine ⟨ex, v, d1, rfl, r1, ?_⟩
    walk_at "sts"
    cases i1 : inD 0 1000000 d1 with
    | false =>
      walk_at "sts"
      refine Eat.x_raise ?_
      walk_at "sts"
      exact ⟨_, rfl, k0 i1⟩
    | true =>
      walk_at "sts"
      rcases k2 i1 with nt | ⟨c, z, rfl, rfl, lz, oz, kd, kn⟩
      · refine x_notx r2 nt ?_
        walk_at "sts"
        refine Eat.x_raise ?_
        walk_at "sts"
        exact ⟨_, rfl, k1 i1 nt⟩
      · cases r1.intI; cases r2.strI
        refine x_tx lz oz fun H1 s1 => ?_
        walk_at "sts"
        have D1 := hD.same s1
        obtain ⟨dx, a1, a2, a3, a4, a5, hp⟩ := D1.ins
        refine x_m rfl hp rfl ?_
        walk_at "sts"
        refine ⟨F, p, st, rfl, D1, fun hd H' f' D' => kd hd H' (.pre s1 f') D', fun hd H2 f2 D2 => ?_⟩
        obtain ⟨l1, l2, l3, kq⟩ := kn hd
        obtain ⟨dx, a1, a2, a3, a4, a5, wr, eF, nd, hp, h1, h2, h3, hw, h4, h5⟩ := id D2
        subst eF
        obtain ⟨⟨n01, n02, n03, n04, n05⟩, ⟨n12, n13, n14, n15⟩, ⟨n23, n24, n25⟩, ⟨n34, n35⟩, n45⟩ := nd6 nd
        walk_at "sts"
        refine x_fld rfl hp T.o_Disk T.f_Disk_waiting lk_wa ?_
        refine x_bmL h3 ?_
        walk_at "sts"
        refine x_mkTN (Nat.le_of_ble_eq_true rfl) fun ta H3 s3 z3 et => ?_
        have hp3 := s3 _ _ hp
        have g1 := s3 _ _ h1
        have g2 := s3 _ _ h2
        have g3 := s3 _ _ h3
        have g4 := s3 _ _ h4
        have g5 := s3 _ _ h5
        have w3 := (hw.kp (ex := []) (Same.kp s3) (fun _ z => nomatch z)).snoc (e := (c, z)) et
        walk_at "sts"
        refine x_app g3 (szl (by rw [hw.1]; exact l1)) ?_
        walk_at "sts"
        refine x_fld rfl (upd_get' n03 hp3) T.o_Disk T.f_Disk_shown lk_sh ?_
        walk_at "sts"
        refine x_setDK (upd_get' n23 g2) l2 ?_
        walk_at "sts"
        refine x_fld rfl (upd_get' n02 (upd_get' n03 hp3)) T.o_Disk T.f_Disk_cells_written lk_cw ?_
        refine x_bmL (upd_get' (Ne.symm n25) (upd_get' (Ne.symm n35) g5)) ?_
        walk_at "sts"
        refine x_app (upd_get' (Ne.symm n25) (upd_get' (Ne.symm n35) g5)) (szl (by rw [List.length_map]; exact l3)) ?_
        walk_at "sts"
        refine kq _ ⟨?_, fun a m => .inl m⟩ ?_
        · exact ((((Kp.trans (Same.kp s1) f2.kp).same s3).mut (by simp)).mut (by simp)).mut (by simp)
        · refine ⟨dx, a1, a2, a3, a4, a5, wr ++ [.ref ta], rfl, nd, upd_get' n05 (upd_get' n02 (upd_get' n03 hp3)), upd_get' n15 (upd_get' n12 (upd_get' n13 g1)), upd_get' n25 upd_same, upd_get' n35 (upd_get' (Ne.symm n23) upd_same), ?_, upd_get' n45 (upd_get' (Ne.symm n24) (upd_get' (Ne.symm n34) g4)), ?_⟩
          · exact ((w3.upd g3 (fun _ z => nomatch z)).upd (upd_get' n23 g2) (fun _ z => nomatch z)).upd (upd_get' (Ne.symm n25) (upd_get' (Ne.symm n35) g5)) (fun _ z => nomatch z)
          · rw [map_snoc]
            exact upd_same
theorem szm {ns : List Int} (h : ns.length < 100000) : (ns.map V.int).length < sizeLine := szl (by rw [List.length_map]; exact h)
def sp_Disk__read (C Cr Bv : Addr) : Sp := fun vs H Q E => ∃ (ex F : List Addr) (p : Addr) (st : DS) (v : V) (d1 : Da), vs = [.ref p, v] ∧ Dk H C F p st ∧ Rp ex H v d1 ∧
  (inD 0 1000000 d1 = false → ∀ d : Addr, H d = none → E (.ref Bv) (some d) (upd H d (.xd [(("at" : Str), .int 0)]))) ∧
  (inD 0 1000000 d1 = true → ∃ c, d1 = .int c ∧ (st.dn = true → E (.ref Cr) none H) ∧ (st.dn = false → st.cr.length < 100000 ∧ ∀ H', Fr F F H H' → Dk H' C F p { st with cr := st.cr ++ [c] } → Q ((valV st.sh (.inl c)).getD (.str "")) H'))
theorem ok_Disk__read {f : Addr} {fd : FuncData} (F : Fun K "read" "Disk.read" s_Disk__read f fd) (T : Txt K mg C_Crashed C_Disk tk_GREATEST_FATE tk_LAST_CELL tk_MOST_CHARACTERS tk_MOST_FATES tk_MOST_STEPS C_BadValue fI_BadValue) (O_is_cell : Ok P w K mg base 3 "is_cell" ["value"] (sp_is_cell)) : FnOk P w K mg base (L2.CX P w) 4 f fd ["self", "cell"] (sp_Disk__read C_Disk C_Crashed C_BadValue) := by
  refine F.okX sc_Disk__read (fun vs H Q E h => ?_) (fun cdv A outer s H vs Q E hr h => ?_)
  · obtain ⟨ex, F, p, st, v, d1, rfl, _⟩ := h
    rfl
  · obtain ⟨ex, F, p, st, v, d1, rfl, hD, r1, k0, k1⟩ := h
    refine ⟨_, d_Disk__read hr T O_is_cell, ?_⟩
    unfold t_Disk__read
    refine x_start (σ' := [some (.ref p), some v]) rfl ?_
    walk_at "sts"
    refine ⟨ex, v, d1, rfl, r1, ?_⟩
    walk_at "sts"
    cases i1 : inD 0 1000000 d1 with
    | false =>
      walk_at "sts"
      refine Eat.x_raise ?_
      walk_at "sts"
      exact ⟨_, rfl, k0 i1⟩
    | true =>
      obtain ⟨c, rfl, kd, kn⟩ := k1 i1
      cases r1.intI
      walk_at "sts"
      obtain ⟨du, sh, wa, left, dn, cr, cw⟩ := st
      obtain ⟨dx, a1, a2, a3, a4, a5, wr, eF, nd, hp, h1, h2, h3, hw, h4, h5⟩ := id hD
      subst eF
      obtain ⟨⟨n01, n02, n03, n04, n05⟩, ⟨n12, n13, n14, n15⟩, ⟨n23, n24, n25⟩, ⟨n34, n35⟩, n45⟩ := nd6 nd
      refine x_fld rfl hp T.o_Disk T.f_Disk_is_down lk_dn ?_
      walk_at "sts"
      cases dn with
      | true =>
        walk_at "sts"
        exact x_raise0 (kd rfl)
      | false =>
        obtain ⟨l1, kq⟩ := kn rfl
        walk_at "sts"
        refine x_fld rfl hp T.o_Disk T.f_Disk_cells_read lk_cr ?_
        refine x_bmL h4 ?_
        walk_at "sts"
        refine x_app h4 (szm l1) ?_
        walk_at "sts"
        refine x_fld rfl (upd_get' n04 hp) T.o_Disk T.f_Disk_shown lk_sh ?_
        refine ⟨a2, rfl, isD_k (upd_get' n24 h2), ?_⟩
        walk_at "sts"
        refine ⟨_, DGet.k (k := .inl c) (upd_get' n24 h2), ?_⟩
        refine kq _ ⟨Kp.refl.mut (by simp), fun a m => .inl m⟩ ?_
        refine ⟨dx, a1, a2, a3, a4, a5, wr, rfl, nd, upd_get' n04 hp, upd_get' n14 h1, upd_get' n24 h2, upd_get' n34 h3, hw.upd h4 (fun _ z => nomatch z), ?_, upd_get' (Ne.symm n45) h5⟩
        rw [map_snoc]
        exact upd_same
def syncK (du : Kv) (wa : List (Int × Str)) : Kv := wa.foldl (fun k e => putK k (.inl e.1) (.str e.2)) du
theorem syncK_len : ∀ (wa : List (Int × Str)) (du : Kv), (syncK du wa).length ≤ du.length + wa.length
  | [], du => Nat.le_refl _
  | e :: wa, du => by
    have h := syncK_len wa (putK du (.inl e.1) (.str e.2))
    have h2 := length_putK du (.inl e.1) (.str e.2)
    show (syncK (putK du (.inl e.1) (.str e.2)) wa).length ≤ _
    rw [List.length_cons]
    omega
theorem syncK_take {du : Kv} {wa : List (Int × Str)} {i : Nat} {e : Int × Str} (h : wa[i]? = some e) : syncK du (wa.take (i + 1)) = putK (syncK du (wa.take i)) (.inl e.1) (.str e.2) := by
  have hi := (List.getElem?_eq_some_iff.mp h).1
  have he := (List.getElem?_eq_some_iff.mp h).2
  rw [List.take_succ_eq_append_getElem hi, he]
  unfold syncK
  rw [List.foldl_append]
  rfl
def sp_Disk__sync (C Cr : Addr) : Sp := fun vs H Q E => ∃ (F : List Addr) (p : Addr) (st : DS), vs = [.ref p] ∧ Dk H C F p st ∧
  (st.dead = true → ∀ H', Fr F F H H' → Dk H' C F p { st with dn := true } → E (.ref Cr) none H') ∧
  (st.dead = false → st.du.length + st.wa.length < 100000 ∧ ∀ H' F', Fr F F' H H' → Dk H' C F' p { st.step with du := syncK st.du st.wa, wa := [] } → Q .non H')
theorem ok_Disk__sync {f : Addr} {fd : FuncData} (F : Fun K "sync" "Disk.sync" s_Disk__sync f fd) (T : Txt K mg C_Crashed C_Disk tk_GREATEST_FATE tk_LAST_CELL tk_MOST_CHARACTERS tk_MOST_FATES tk_MOST_STEPS C_BadValue fI_BadValue) (O_Disk___step : OkM (L2.CX P w) P w K mg base 3 C_Disk "_step" ["self"] (sp_Disk___step C_Disk C_Crashed)) : FnOk P w K mg base (L2.CX P w) 4 f fd ["self"] (sp_Disk__sync C_Disk C_Crashed) := by
  refine F.okX sc_Disk__sync (fun vs H Q E h => ?_) (fun cdv A outer s H vs Q E hr h => ?_)
  · obtain ⟨F, p, st, rfl, _⟩ := h
    rfl
  · obtain ⟨F, p, st, rfl, hD, kd, kn⟩ := h
    refine ⟨_, d_Disk__sync hr T O_Disk___step, ?_⟩
    unfold t_Disk__sync
    refine x_start (σ' := [some (.ref p), none, none]) rfl ?_
    walk_at "sts"
    obtain ⟨dx, a1, a2, a3, a4, a5, hp⟩ := hD.ins
    refine x_m rfl hp rfl ?_
    walk_at "sts"
    refine ⟨F, p, st, rfl, hD, kd, fun hd H2 f2 D2 => ?_⟩
    obtain ⟨l1, kq⟩ := kn hd
    obtain ⟨dx, a1, a2, a3, a4, a5, wr, eF, nd, hp, h1, h2, h3, hw, h4, h5⟩ := id D2
    subst eF
    obtain ⟨⟨n01, n02, n03, n04, n05⟩, ⟨n12, n13, n14, n15⟩, ⟨n23, n24, n25⟩, ⟨n34, n35⟩, n45⟩ := nd6 nd
    walk_at "sts"
    refine x_fld rfl hp T.o_Disk T.f_Disk_waiting lk_wa ?_
    have lw : wr.length = st.wa.length := hw.1
    refine x_loopL (SqL.of h3) (fun i σ H' => ∃ x1 x2 : Option V, σ = [some (.ref p), x1, x2] ∧ Kp [a1] H2 H' ∧ H' a1 = some (.dK (syncK st.du (st.wa.take i)))) ?_ ?_ ?_ ?_
    · exact ⟨none, none, rfl, Kp.refl, h1⟩
    · rintro i σ H' _ ⟨x1, x2, rfl, k, e⟩
      exact SqL.of (k _ _ (not1 (Ne.symm n13)) h3)
    · rintro i x σ H' gx ⟨x1, x2, rfl, k, e⟩
      have hw' := hw.kp k (nt_one h1 (fun _ z => nomatch z))
      obtain ⟨en, ta, ge, rfl, et⟩ := hw'.at gx
      have hi := (List.getElem?_eq_some_iff.mp ge).1
      have hp' := k _ _ (not1 n01) hp
      refine x_gX (.inl et) rfl ?_
      walk_at "sts"
      refine x_fld rfl hp' T.o_Disk T.f_Disk_durable lk_du ?_
      walk_at "sts"
      refine x_setDK e (by have := syncK_len (st.wa.take i) st.du; rw [List.length_take] at this; omega) ?_
      walk_at "sts"
      refine ⟨_, _, rfl, k.mut List.mem_cons_self, ?_⟩
      rw [syncK_take ge]
      exact upd_same
    · rintro σ H3 ⟨x1, x2, rfl, k, e⟩
      rw [lw, List.take_length] at e
      have hp3 := k _ _ (not1 n01) hp
      have g2 := k _ _ (not1 (Ne.symm n12)) h2
      have g4 := k _ _ (not1 (Ne.symm n14)) h4
      have g5 := k _ _ (not1 (Ne.symm n15)) h5
      have g3 := k _ _ (not1 (Ne.symm n13)) h3
      refine x_sf ?_
      walk_at "sts"
      refine x_mklN rfl (by decide) fun q H4 s4 z4 e4 => ?_
      walk_at "sts"
      have m0 : q ≠ p := new_ne z4 hp3
      have m1 : q ≠ a1 := new_ne z4 e
      have m2 : q ≠ a2 := new_ne z4 g2
      have m4 : q ≠ a4 := new_ne z4 g4
      have m5 : q ≠ a5 := new_ne z4 g5
      refine x_sfG (σ := []) (n := fun _ H' => Q .non H') (s4 _ _ hp3) T.o_Disk T.f_Disk_waiting len_fsD pf_wa fun H5 k5 y5 => ?_
      have zq : H2 q = none := Kp.none k (not1 m1) z4
      refine kq H5 [p, a1, a2, q, a4, a5] (f2.up ⟨((k.mono (by simp)).same s4).trans (k5.mono (by simp)), fun a m => ?_⟩) ⟨dx, a1, a2, q, a4, a5, [], rfl, of6 ⟨⟨n01, n02, Ne.symm m0, n04, n05⟩, ⟨n12, Ne.symm m1, n14, n15⟩, ⟨Ne.symm m2, n24, n25⟩, ⟨m4, m5⟩, n45⟩, y5,
        k5 _ _ (not1 (Ne.symm n01)) (s4 _ _ e), k5 _ _ (not1 (Ne.symm n02)) (s4 _ _ g2), k5 _ _ (not1 m0) e4, Prs.nil, k5 _ _ (not1 (Ne.symm n04)) (s4 _ _ g4), k5 _ _ (not1 (Ne.symm n05)) (s4 _ _ g5)⟩
      simp only [List.mem_cons, List.not_mem_nil, or_false] at m ⊢
      rcases m with rfl | rfl | rfl | rfl | rfl | rfl <;> first | exact .inr zq | (left; simp)
def sp_Disk__pending (C : Addr) : Sp := fun vs H Q _ => ∃ (F : List Addr) (p : Addr) (st : DS), vs = [.ref p] ∧ Dk H C F p st ∧ Q (.int (st.wa.length : Int)) H
theorem ok_Disk__pending {f : Addr} {fd : FuncData} (F : Fun K "pending" "Disk.pending" s_Disk__pending f fd) (T : Txt K mg C_Crashed C_Disk tk_GREATEST_FATE tk_LAST_CELL tk_MOST_CHARACTERS tk_MOST_FATES tk_MOST_STEPS C_BadValue fI_BadValue)  : FnOk P w K mg base CX0 1 f fd ["self"] (sp_Disk__pending C_Disk) := by
  refine F.ok sc_Disk__pending (fun vs H Q E h => ?_) (fun cdv A outer s H vs Q E hr h => ?_)
  · obtain ⟨F, p, st, rfl, _⟩ := h
    rfl
  · obtain ⟨F, p, st, rfl, hD, k⟩ := h
    refine ⟨_, d_Disk__pending hr T , ?_⟩
    unfold t_Disk__pending
    refine x_start (σ' := [some (.ref p)]) rfl ?_
    walk_at "sts"
    obtain ⟨dx, a1, a2, a3, a4, a5, wr, eF, nd, hp, h1, h2, h3, hw, h4, h5⟩ := id hD
    refine x_fld rfl hp T.o_Disk T.f_Disk_waiting lk_wa ?_
    walk_at "sts"
    refine x_lenL h3 ?_
    rw [hw.1]
    exact k
def sp_Disk__limit (C Bv : Addr) : Sp := fun vs H Q E => ∃ (ex F : List Addr) (p : Addr) (st : DS) (v : V) (d1 : Da), vs = [.ref p, v] ∧ Dk H C F p st ∧ Rp ex H v d1 ∧
  (inD 0 1000000 d1 = false → ∀ d : Addr, H d = none → E (.ref Bv) (some d) (upd H d (.xd [(("at" : Str), .int 0)]))) ∧
  (inD 0 1000000 d1 = true → ∃ c, d1 = .int c ∧ ∀ H', Fr F F H H' → Dk H' C F p { st with left := some c } → Q .non H')
theorem ok_Disk__limit {f : Addr} {fd : FuncData} (F : Fun K "limit" "Disk.limit" s_Disk__limit f fd) (T : Txt K mg C_Crashed C_Disk tk_GREATEST_FATE tk_LAST_CELL tk_MOST_CHARACTERS tk_MOST_FATES tk_MOST_STEPS C_BadValue fI_BadValue) (O_is_within : Ok P w K mg base 2 "is_within" ["value", "least", "most"] (sp_is_within)) : FnOk P w K mg base (L2.CX P w) 3 f fd ["self", "steps"] (sp_Disk__limit C_Disk C_BadValue) := by
  refine F.okX sc_Disk__limit (fun vs H Q E h => ?_) (fun cdv A outer s H vs Q E hr h => ?_)
  · obtain ⟨ex, F, p, st, v, d1, rfl, _⟩ := h
    rfl
  · obtain ⟨ex, F, p, st, v, d1, rfl, hD, r1, k0, k1⟩ := h
    refine ⟨_, d_Disk__limit hr T O_is_within, ?_⟩
    unfold t_Disk__limit
    refine x_start (σ' := [some (.ref p), some v]) rfl ?_
    walk_at "sts"
    refine ⟨ex, v, d1, 0, 1000000, rfl, r1, ?_⟩
    walk_at "sts"
    cases i1 : inD 0 1000000 d1 with
    | false =>
      walk_at "sts"
      refine Eat.x_raise ?_
      walk_at "sts"
      exact ⟨_, rfl, k0 i1⟩
    | true =>
      obtain ⟨c, rfl, kn⟩ := k1 i1
      cases r1.intI
      walk_at "sts"
      have pF := hD.mem
      obtain ⟨dx, a1, a2, a3, a4, a5, wr, eF, nd, hp, h1, h2, h3, hw, h4, h5⟩ := id hD
      refine x_sf ?_
      walk_at "sts"
      refine x_sfG (σ := []) (n := fun _ H' => Q .non H') hp T.o_Disk T.f_Disk_steps_left len_fsD pf_sl fun H' kk hp' => ?_
      exact kn H' ⟨kk.mono fun a m => by rw [List.mem_singleton.mp m]; exact pF, fun a m => .inl m⟩ (Dk.setp (st := st) (l := some c) (b := st.dn) eF nd h1 h2 h3 hw h4 h5 hp (fun _ z => nomatch z) kk hp')
def intsT (ns : List Int) : Da := .tup (ns.map Da.int)
theorem rps_ints0 {ex : List Addr} {H : Hp} (ns : List Int) : Rps ex H (ns.map V.int) (ns.map Da.int) := ⟨by simp, fun i x d h1 h2 => by
  rw [List.getElem?_map] at h1 h2
  cases e : ns[i]? with
  | none => rw [e] at h1; cases h1
  | some n => rw [e] at h1 h2; cases h1; cases h2; exact .int n⟩
def sp_Disk__writes (C : Addr) : Sp := fun vs H Q _ => ∃ (F : List Addr) (p : Addr) (st : DS), vs = [.ref p] ∧ Dk H C F p st ∧ ∀ v H', Same H H' → Rp [] H' v (intsT st.cw) → Q v H'
theorem ok_Disk__writes {f : Addr} {fd : FuncData} (F : Fun K "writes" "Disk.writes" s_Disk__writes f fd) (T : Txt K mg C_Crashed C_Disk tk_GREATEST_FATE tk_LAST_CELL tk_MOST_CHARACTERS tk_MOST_FATES tk_MOST_STEPS C_BadValue fI_BadValue)  : FnOk P w K mg base CX0 1 f fd ["self"] (sp_Disk__writes C_Disk) := by
  refine F.ok sc_Disk__writes (fun vs H Q E h => ?_) (fun cdv A outer s H vs Q E hr h => ?_)
  · obtain ⟨F, p, st, rfl, _⟩ := h
    rfl
  · obtain ⟨F, p, st, rfl, hD, k⟩ := h
    refine ⟨_, d_Disk__writes hr T , ?_⟩
    unfold t_Disk__writes
    refine x_start (σ' := [some (.ref p)]) rfl ?_
    walk_at "sts"
    obtain ⟨dx, a1, a2, a3, a4, a5, wr, eF, nd, hp, h1, h2, h3, hw, h4, h5⟩ := id hD
    refine x_fld rfl hp T.o_Disk T.f_Disk_cells_written lk_cw ?_
    walk_at "sts"
    refine x_tupL (SqL.of h5) fun l hl => ?_
    exact k _ _ (Same.new (Same.refl _) hl) (rps_tup (rps_ints0 _) (fun z => nomatch z) upd_same)
def sp_Disk__forget (C : Addr) : Sp := fun vs H Q _ => ∃ (F : List Addr) (p : Addr) (st : DS), vs = [.ref p] ∧ Dk H C F p st ∧ ∀ H' F', Fr F F' H H' → Dk H' C F' p { st with cr := [], cw := [] } → Q .non H'
theorem ok_Disk__forget {f : Addr} {fd : FuncData} (F : Fun K "forget" "Disk.forget" s_Disk__forget f fd) (T : Txt K mg C_Crashed C_Disk tk_GREATEST_FATE tk_LAST_CELL tk_MOST_CHARACTERS tk_MOST_FATES tk_MOST_STEPS C_BadValue fI_BadValue)  : FnOk P w K mg base CX0 1 f fd ["self"] (sp_Disk__forget C_Disk) := by
  refine F.ok sc_Disk__forget (fun vs H Q E h => ?_) (fun cdv A outer s H vs Q E hr h => ?_)
  · obtain ⟨F, p, st, rfl, _⟩ := h
    rfl
  · obtain ⟨F, p, st, rfl, hD, k⟩ := h
    refine ⟨_, d_Disk__forget hr T , ?_⟩
    unfold t_Disk__forget
    refine x_start (σ' := [some (.ref p)]) rfl ?_
    walk_at "sts"
    obtain ⟨dx, a1, a2, a3, a4, a5, wr, eF, nd, hp, h1, h2, h3, hw, h4, h5⟩ := id hD
    subst eF
    obtain ⟨⟨n01, n02, n03, n04, n05⟩, ⟨n12, n13, n14, n15⟩, ⟨n23, n24, n25⟩, ⟨n34, n35⟩, n45⟩ := nd6 nd
    refine x_sf ?_
    walk_at "sts"
    refine x_mklN rfl (by decide) fun q G1 s1 z1 e1 => ?_
    walk_at "sts"
    refine x_sfG (s1 _ _ hp) T.o_Disk T.f_Disk_cells_read len_fsD pf_cr fun G2 k2 y2 => ?_
    walk_at "sts"
    refine x_sf ?_
    walk_at "sts"
    refine x_mklN rfl (by decide) fun r G3 s3 z3 e3 => ?_
    walk_at "sts"
    refine x_sfG (σ := []) (n := fun _ H' => Q .non H') (s3 _ _ y2) T.o_Disk T.f_Disk_cells_written len_fsD pf_cw fun G4 k4 y4 => ?_
    have q0 : q ≠ p := new_ne z1 hp
    have go : ∀ a o, a ≠ p → H a = some o → G4 a = some o := fun a o n e => k4 _ _ (not1 n) (s3 _ _ (k2 _ _ (not1 n) (s1 _ _ e)))
    have eq4 : G4 q = some (.lst []) := k4 _ _ (not1 q0) (s3 _ _ (k2 _ _ (not1 q0) e1))
    have e2 : G2 q = some (.lst []) := k2 _ _ (not1 q0) e1
    have r0 : r ≠ p := new_ne z3 y2
    have rq : r ≠ q := new_ne z3 e2
    have zr : H r = none := Kp.none (ex := [p]) ((Same.kp s1).trans k2) (not1 r0) z3
    have kk : Kp [p] H G4 := ((((Same.kp s1).trans k2).same s3).trans k4)
    refine k G4 [p, a1, a2, a3, q, r] ⟨kk.mono (by simp), fun a m => ?_⟩ ⟨dx, a1, a2, a3, q, r, wr, rfl, of6 ⟨⟨n01, n02, n03, Ne.symm q0, Ne.symm r0⟩, ⟨n12, n13, Ne.symm (new_ne z1 h1), Ne.symm (new_ne zr h1)⟩, ⟨n23, Ne.symm (new_ne z1 h2), Ne.symm (new_ne zr h2)⟩, ⟨Ne.symm (new_ne z1 h3), Ne.symm (new_ne zr h3)⟩, Ne.symm rq⟩, y4,
      go _ _ (Ne.symm n01) h1, go _ _ (Ne.symm n02) h2, go _ _ (Ne.symm n03) h3, hw.kp kk (nt_one hp (fun _ z => nomatch z)), eq4, k4 _ _ (not1 r0) e3⟩
    simp only [List.mem_cons, List.not_mem_nil, or_false] at m ⊢
    rcases m with rfl | rfl | rfl | rfl | rfl | rfl <;> first | exact .inr z1 | exact .inr zr | (left; simp)
/-! ### restarts -/
def fatesB (ds : List Da) : Bool := (ds.map (inD 0 10000)).all id
def sp_are_fates : Sp := fun vs H Q _ => ∃ (ex : List Addr) (v : V) (d : Da), vs = [v] ∧ Rp ex H v d ∧ Live ex H ∧ ((d.isSeq = false ∧ ∀ H', Same H H' → Q (.bl false) H') ∨ ∃ ds, d.seq ds ∧ ds.length ≤ 10000 ∧ ∀ H', Same H H' → Q (.bl (fatesB ds)) H')
theorem ok_are_fates {f : Addr} {fd : FuncData} (F : Fun K "are_fates" "are_fates" s_are_fates f fd) (T : Txt K mg C_Crashed C_Disk tk_GREATEST_FATE tk_LAST_CELL tk_MOST_CHARACTERS tk_MOST_FATES tk_MOST_STEPS C_BadValue fI_BadValue) (O_is_sequence : Ok P w K mg base 1 "is_sequence" ["value"] (sp_is_sequence)) (O_is_within : Ok P w K mg base 2 "is_within" ["value", "least", "most"] (sp_is_within)) : FnOk P w K mg base CX0 3 f fd ["value"] sp_are_fates := by
  refine F.ok sc_are_fates (fun vs H Q E h => ?_) (fun cdv A outer s H vs Q E hr h => ?_)
  · obtain ⟨ex, v, d, rfl, _⟩ := h
    rfl
  · obtain ⟨ex, v, d, rfl, h, L, k⟩ := h
    refine ⟨_, d_are_fates hr T O_is_sequence O_is_within, ?_⟩
    unfold t_are_fates
    refine x_start (σ' := [some v, none]) rfl ?_
    walk_at "sts"
    refine ⟨ex, v, d, rfl, h, fun H1 s1 => ?_⟩
    walk_at "sts"
    rcases k with ⟨n, k⟩ | ⟨ds, hd, hl, k⟩
    · rw [n]
      walk_at "sts"
      exact k _ s1
    · have e : d.isSeq = true := by rcases hd with rfl | rfl <;> rfl
      rw [e]
      walk_at "sts"
      have h1 := h.same s1
      have L1 := L.same s1
      refine x_lenR h1 hd ?_
      walk_at "sts"
      refine x_dec (fun c => absurd c (by omega)) (fun c => ?_)
      walk_at "sts"
      refine x_mapS (fs := ds.map fun d => Da.bl (inD 0 10000 d)) (Same H1) h1 hd (by rw [List.length_map]) (by omega) (Same.refl H1) (fun H' s => L1.same s) (fun H' D o n s => Same.own s n) (fun D i x e f H2 N Nx hD ge gf kp2 L2 iv2 rx hN => ?_) (fun v6 H6 kp6 s6 r6 => ?_)
      · rw [List.getElem?_map, ge] at gf
        cases gf
        walk_at "sts"
        refine ⟨rfl, ?_⟩
        walk_at "sts"
        refine ⟨_, x, e, 0, 10000, rfl, rx, ?_⟩
        exact hN _ _ Kp.refl iv2 (.bl _)
      · walk_at "sts"
        refine x_allR (ns := ds.map (inD 0 10000)) (by rw [List.map_map]; exact r6) ?_
        exact k _ (s1.trans s6)
def oldS (du : Kv) (c : Int) : Str := match valV du (.inl c) with
  | some (.str s) => s
  | _ => ""
def cutAt (z o : Str) (f : Int) : Str := cutS z none (some f) ++ cutS o (some f) none
def fate1 (du : Kv) (e : (Int × Str) × Int) : Kv := putK du (.inl e.1.1) (.str (cutAt e.1.2 (oldS du e.1.1) e.2))
def restK (du : Kv) (l : List ((Int × Str) × Int)) : Kv := l.foldl fate1 du
/-- all values are texts of at most B signs -/
def SK (du : Kv) (B : Nat) : Prop := ∀ k v, valV du k = some v → ∃ z, v = .str z ∧ z.length ≤ B
theorem SK.old {du : Kv} {B : Nat} (h : SK du B) (c : Int) : (valV du (.inl c)).getD (.str "") = .str (oldS du c) ∧ (oldS du c).length ≤ B := by
  unfold oldS
  cases e : valV du (.inl c) with
  | none => exact ⟨rfl, by show ("" : Str).length ≤ B; rw [show ("" : Str).length = 0 by decide +kernel]; exact Nat.zero_le _⟩
  | some v =>
    obtain ⟨z, rfl, hz⟩ := h _ _ e
    exact ⟨rfl, hz⟩
theorem SK.put {du : Kv} {B B' : Nat} {c : Int} {z : Str} (h : SK du B) (hb : B ≤ B') (hz : z.length ≤ B') : SK (putK du (.inl c) (.str z)) B' := fun k v e => by
  rw [valV_put] at e
  by_cases q : k = .inl c
  · rw [if_pos q] at e
    cases e
    exact ⟨z, rfl, hz⟩
  · rw [if_neg q] at e
    obtain ⟨y, e1, e2⟩ := h _ _ e
    exact ⟨y, e1, Nat.le_trans e2 hb⟩
theorem len_addS' (a b : Str) : (a ++ b).length = a.length + b.length := by
  show (a ++ b).cps.size = _
  have e : (a ++ b).cps.toList = a.cps.toList ++ b.cps.toList := TL.tl_append a b
  have := congrArg List.length e
  rw [List.length_append] at this
  simpa [Str.length] using this
theorem cutAt_len (z o : Str) (f : Int) : (cutAt z o f).length ≤ z.length + o.length := by
  unfold cutAt
  rw [len_addS']
  exact Nat.add_le_add (cutS_length _ _ _) (cutS_length _ _ _)
theorem SK.fate {du : Kv} {B M : Nat} {e : (Int × Str) × Int} (h : SK du B) (hm : e.1.2.length ≤ M) : SK (fate1 du e) (B + M) := by
  refine h.put (Nat.le_add_right _ _) ?_
  have := cutAt_len e.1.2 (oldS du e.1.1) e.2
  have := (h.old e.1.1).2
  omega
theorem SK.rest {M : Nat} : ∀ (l : List ((Int × Str) × Int)) {du : Kv} {B : Nat}, SK du B → (∀ e, e ∈ l → e.1.2.length ≤ M) → SK (restK du l) (B + M * l.length)
  | [], du, B, h, _ => h
  | e :: l, du, B, h, hm => by
    have h1 := SK.rest (M := M) l (h.fate (hm e List.mem_cons_self)) fun e' m => hm e' (List.mem_cons_of_mem _ m)
    have ea : B + M + M * l.length = B + M * (e :: l).length := by rw [List.length_cons, Nat.mul_succ]; omega
    rw [ea] at h1
    exact h1
theorem restK_len : ∀ (l : List ((Int × Str) × Int)) (du : Kv), (restK du l).length ≤ du.length + l.length
  | [], du => Nat.le_refl _
  | e :: l, du => by
    have h := restK_len l (fate1 du e)
    have h2 := length_putK du (.inl e.1.1) (.str (cutAt e.1.2 (oldS du e.1.1) e.2))
    have h3 : (fate1 du e).length ≤ du.length + 1 := h2
    show (restK (fate1 du e) l).length ≤ _
    rw [List.length_cons]
    omega
theorem restK_take {du : Kv} {l : List ((Int × Str) × Int)} {i : Nat} {e : (Int × Str) × Int} (h : l[i]? = some e) : restK du (l.take (i + 1)) = fate1 (restK du (l.take i)) e := by
  have hi := (List.getElem?_eq_some_iff.mp h).1
  have he := (List.getElem?_eq_some_iff.mp h).2
  rw [List.take_succ_eq_append_getElem hi, he]
  unfold restK
  rw [List.foldl_append]
  rfl
theorem k_p {ex : List Addr} {H H' : Hp} {p o : Addr} {a u : HO} (kk : Kp ex H H') (n : p ∉ ex) (h : H p = some a) (hT : H' o = none) : upd H' o u p = some a := upd_get hT (kk _ _ n h)
theorem zip_at {α β : Type} {l : List α} {m : List β} {i : Nat} {a : α} {b : β} (h1 : l[i]? = some a) (h2 : m[i]? = some b) : (l.zip m)[i]? = some (a, b) := by
  rw [List.getElem?_zip_eq_some]
  exact ⟨h1, h2⟩
theorem x_slS {z : Str} {lo hi : Option Int} {H : Hp} {Q : VK} (h : z.length ≤ 100000) (q : Q (.str (cutS z lo hi)) H) : rSlS (.str z) lo hi H Q := ⟨z, rfl, sz h, q⟩
def sp_Disk__restart (C Bv : Addr) : Sp := fun vs H Q E => ∃ (ex F : List Addr) (p : Addr) (st : DS) (v : V) (d : Da), vs = [.ref p, v] ∧ Dk H C F p st ∧ Rp ex H v d ∧ Live ex H ∧
  ((d.isSeq = false ∧ ∀ H' (dd : Addr), Same H H' → H' dd = none → E (.ref Bv) (some dd) (upd H' dd (.xd [(("at" : Str), .int 0)]))) ∨
  (∃ ds, d.seq ds ∧ ds.length ≤ 10000 ∧ fatesB ds = false ∧ ∀ H' (dd : Addr), Same H H' → H' dd = none → E (.ref Bv) (some dd) (upd H' dd (.xd [(("at" : Str), .int 0)]))) ∨
  (∃ (fs : List Int) (B M : Nat), d.seq (fs.map Da.int) ∧ fs.length ≤ 10000 ∧ fatesB (fs.map Da.int) = true ∧ SK st.du B ∧ (∀ e, e ∈ st.wa → e.2.length ≤ M) ∧ B + M * st.wa.length ≤ 40000 ∧ M ≤ 2000 ∧ st.du.length + st.wa.length < 100000 ∧
    ∀ H' F', Fr F F' H H' → Dk H' C F' p { st with du := restK st.du (st.wa.zip fs), sh := restK st.du (st.wa.zip fs), wa := [], left := none, dn := false } → Q .non H'))
theorem ok_Disk__restart {f : Addr} {fd : FuncData} (F : Fun K "restart" "Disk.restart" s_Disk__restart f fd) (T : Txt K mg C_Crashed C_Disk tk_GREATEST_FATE tk_LAST_CELL tk_MOST_CHARACTERS tk_MOST_FATES tk_MOST_STEPS C_BadValue fI_BadValue) (O_are_fates : Ok P w K mg base 3 "are_fates" ["value"] (sp_are_fates)) : FnOk P w K mg base (L2.CX P w) 4 f fd ["self", "fates"] (sp_Disk__restart C_Disk C_BadValue) := by
  refine F.okX sc_Disk__restart (fun vs H Q E h => ?_) (fun cdv A outer s H vs Q E hr h => ?_)
  · obtain ⟨ex, F, p, st, v, d, rfl, _⟩ := h
    rfl
  · obtain ⟨ex, F, p, st, v, d, rfl, hD, r1, L, k⟩ := h
    refine ⟨_, d_Disk__restart hr T O_are_fates, ?_⟩
    unfold t_Disk__restart
    refine x_start (σ' := [some (.ref p), some v, none, none, none]) rfl ?_
    walk_at "sts"
    rcases k with ⟨n, k⟩ | ⟨ds, hd, hl, hb, k⟩ | ⟨fs, B, M, hd, hl, hb, hS, hM, hB, m2, lz, k⟩
    · refine ⟨ex, v, d, rfl, r1, L, .inl ⟨n, fun H1 s1 => ?_⟩⟩
      walk_at "sts"
      refine Eat.x_raise ?_
      walk_at "sts"
      exact ⟨_, rfl, fun dd hdd => k H1 dd s1 hdd⟩
    · refine ⟨ex, v, d, rfl, r1, L, .inr ⟨ds, hd, hl, fun H1 s1 => ?_⟩⟩
      rw [hb]
      walk_at "sts"
      refine Eat.x_raise ?_
      walk_at "sts"
      exact ⟨_, rfl, fun dd hdd => k H1 dd s1 hdd⟩
    · refine ⟨ex, v, d, rfl, r1, L, .inr ⟨_, hd, by rw [List.length_map]; exact hl, fun H1 s1 => ?_⟩⟩
      rw [hb]
      walk_at "sts"
      have D1 := hD.same s1
      obtain ⟨dx, a1, a2, a3, a4, a5, wr, eF, nd, hp, h1, h2, h3, hw, h4, h5⟩ := id D1
      subst eF
      obtain ⟨⟨n01, n02, n03, n04, n05⟩, ⟨n12, n13, n14, n15⟩, ⟨n23, n24, n25⟩, ⟨n34, n35⟩, n45⟩ := nd6 nd
      refine x_fld rfl hp T.o_Disk T.f_Disk_waiting lk_wa ?_
      walk_at "sts"
      obtain ⟨af, ys, rfl, nf, ef, rf⟩ := (r1.same s1).seqI hd
      have ey := ints_of rf
      have naf : af ≠ a1 := fun z => by
        rw [z, h1] at ef
        rcases ef with e | e <;> cases e
      have sq : ∃ u : Bool, ∀ H', Kp [a1] H1 H' → SqB K u H' af ys := by
        rcases ef with e | e
        · exact ⟨true, fun H' k' => SqT.of (k' _ _ (not1 naf) e)⟩
        · exact ⟨false, fun H' k' => SqL.of (k' _ _ (not1 naf) e)⟩
      obtain ⟨u, sq⟩ := sq
      have lw : wr.length = st.wa.length := hw.1
      have ly : ys.length = fs.length := by rw [ey, List.length_map]
      have lzp : (st.wa.zip fs).length = min st.wa.length fs.length := List.length_zip
      refine x_zipM (a := a3) (a' := af) (t := false) (u := u) (xs := wr) (ys := ys) (m := (st.wa.zip fs).length) (by omega) (by omega) (by omega)
        (fun i σ H' => ∃ x2 x3 x4 : Option V, σ = [some (.ref p), some (.ref af), x2, x3, x4] ∧ Kp [a1] H1 H' ∧ H' a1 = some (.dK (restK st.du ((st.wa.zip fs).take i)))) ?_ ?_ ?_ ?_
      · exact ⟨_, _, _, rfl, Kp.refl, h1⟩
      · rintro i σ H' ⟨x2, x3, x4, rfl, kk, e⟩
        exact ⟨SqL.of (kk _ _ (not1 (Ne.symm n13)) h3), sq H' kk⟩
      · rintro i x y TT σ H2 gx gy ⟨x2, x3, x4, rfl, kk, e⟩ hT
        have hw' := hw.kp kk (nt_one h1 (fun _ z => nomatch z))
        obtain ⟨en, ta, ge, rfl, et⟩ := hw'.at gx
        rw [ey, List.getElem?_map] at gy
        obtain ⟨fv, gf, rfl⟩ := Option.map_eq_some_iff.mp gy
        have gz := zip_at ge gf
        have hi := (List.getElem?_eq_some_iff.mp gz).1
        have hme := hM en (List.mem_of_getElem? ge)
        have hSi := SK.rest (M := M) ((st.wa.zip fs).take i) hS (fun e' m => hM _ (List.of_mem_zip (List.mem_of_mem_take m)).1)
        have li : B + M * ((st.wa.zip fs).take i).length ≤ 40000 := by
          have : M * ((st.wa.zip fs).take i).length ≤ M * st.wa.length := Nat.mul_le_mul_left _ (by rw [List.length_take]; omega)
          omega
        have hold := hSi.old en.1
        have hp' := k_p (o := TT) kk (not1 n01) hp hT (u := .tup [.ref ta, .int fv])
        refine x_gX (.inl upd_same) rfl ?_
        walk_at "sts"
        refine x_gX (.inl (upd_get hT et)) rfl ?_
        walk_at "sts"
        refine x_slS (by omega) ?_
        refine x_sl ?_
        refine x_fld rfl hp' T.o_Disk T.f_Disk_durable lk_du ?_
        refine ⟨a1, rfl, isD_k (upd_get hT e), ?_⟩
        walk_at "sts"
        refine ⟨_, DGet.k (k := .inl en.1) (upd_get hT e), ?_⟩
        rw [hold.1]
        walk_at "sts"
        refine x_slS (by omega) ?_
        refine x_addS (by have := cutS_length en.2 none (some fv); have := cutS_length (oldS (restK st.du ((st.wa.zip fs).take i)) en.1) (some fv) none; omega) ?_
        walk_at "sts"
        refine x_fld rfl hp' T.o_Disk T.f_Disk_durable lk_du ?_
        walk_at "sts"
        refine x_setDK (upd_get hT e) (by have := restK_len ((st.wa.zip fs).take i) st.du; rw [List.length_take] at this; omega) ?_
        walk_at "sts"
        refine ⟨_, _, _, rfl, (kk.same (Same.new (Same.refl _) hT)).mut List.mem_cons_self, ?_⟩
        rw [restK_take gz]
        exact upd_same
      · rintro σ H3 ⟨x2, x3, x4, rfl, kk, e⟩
        rw [List.take_length] at e
        have hp3 := kk _ _ (not1 n01) hp
        have g2 := kk _ _ (not1 (Ne.symm n12)) h2
        have g3 := kk _ _ (not1 (Ne.symm n13)) h3
        have g4 := kk _ _ (not1 (Ne.symm n14)) h4
        have g5 := kk _ _ (not1 (Ne.symm n15)) h5
        walk_at "sts"
        refine x_sf ?_
        walk_at "sts"
        refine x_fld rfl hp3 T.o_Disk T.f_Disk_durable lk_du ?_
        walk_at "sts"
        refine x_dictD e fun q H4 s4 z4 e4 => ?_
        walk_at "sts"
        refine x_sfG (s4 _ _ hp3) T.o_Disk T.f_Disk_shown len_fsD pf_sh fun H5 k5 y5 => ?_
        walk_at "sts"
        refine x_sf ?_
        walk_at "sts"
        refine x_mklN rfl (by decide) fun q' H6 s6 z6 e6 => ?_
        walk_at "sts"
        refine x_sfG (s6 _ _ y5) T.o_Disk T.f_Disk_waiting len_fsD pf_wa fun H7 k7 y7 => ?_
        walk_at "sts"
        refine x_sf ?_
        walk_at "sts"
        refine x_sfG y7 T.o_Disk T.f_Disk_steps_left len_fsD pf_sl fun H8 k8 y8 => ?_
        walk_at "sts"
        refine x_sf ?_
        walk_at "sts"
        refine x_sfG (σ := []) (n := fun _ H' => Q .non H') y8 T.o_Disk T.f_Disk_is_down len_fsD pf_dn fun H9 k9 y9 => ?_
        have up : ∀ a o, a ≠ p → H3 a = some o → H9 a = some o := fun a o n ee => k9 _ _ (not1 n) (k8 _ _ (not1 n) (k7 _ _ (not1 n) (s6 _ _ (k5 _ _ (not1 n) (s4 _ _ ee)))))
        have q0 : q ≠ p := new_ne z4 hp3
        have q0' : q' ≠ p := new_ne z6 y5
        have e5 : H5 q = some (.dK _) := k5 _ _ (not1 q0) e4
        have eq : H9 q = some (.dK _) := k9 _ _ (not1 q0) (k8 _ _ (not1 q0) (k7 _ _ (not1 q0) (s6 _ _ e5)))
        have eq' : H9 q' = some (.lst []) := k9 _ _ (not1 q0') (k8 _ _ (not1 q0') (k7 _ _ (not1 q0') e6))
        have kp35 : Kp [p] H3 H5 := (Same.kp s4).trans k5
        have z6' : H3 q' = none := Kp.none kp35 (not1 q0') z6
        have k39 : Kp [p] H3 H9 := (((kp35.same s6).trans k7).trans k8).trans k9
        have qq : q' ≠ q := new_ne z6 e5
        refine k H9 [p, a1, q, q', a4, a5] ⟨Kp.trans (Same.kp s1) ((kk.mono (by simp)).trans (k39.mono (by simp))), fun a m => ?_⟩ ⟨dx, a1, q, q', a4, a5, [], rfl, of6 ⟨⟨n01, Ne.symm q0, Ne.symm q0', n04, n05⟩, ⟨Ne.symm (new_ne z4 e), Ne.symm (new_ne z6' e), n14, n15⟩, ⟨Ne.symm qq, new_ne z4 g4, new_ne z4 g5⟩, ⟨new_ne z6' g4, new_ne z6' g5⟩, n45⟩, y9,
          up _ _ (Ne.symm n01) e, eq, eq', Prs.nil, up _ _ (Ne.symm n04) g4, up _ _ (Ne.symm n05) g5⟩
        have fresh : ∀ b, H3 b = none → b ≠ a1 → H b = none := fun b zb nb => Same.none s1 (Kp.none kk (not1 nb) zb)
        simp only [List.mem_cons, List.not_mem_nil, or_false] at m ⊢
        rcases m with rfl | rfl | rfl | rfl | rfl | rfl
        · left; simp
        · left; simp
        · right; exact fresh _ z4 (new_ne z4 e)
        · right; exact fresh _ z6' (new_ne z6' e)
        · left; simp
        · left; simp
/-! ### the law -/
theorem x_numbers {a : Addr} {ns : List Int} {H : Hp} {Q : VK} {E : XK} (h : SqL K H a (ns.map V.int)) (hl : ns.length ≤ 63) (q : ∀ p H' (rs : List Int), Same H H' → H p = none → H' p = some (.lst (rs.map V.int)) → rs ≠ [] → rs.length ≤ 4000 → Q (.ref p) H') : sp__law_numbers K [.ref a] H Q E := ⟨a, ns, rfl, h, hl, q⟩
theorem wd_start {H : Hp} {row sp : Addr} {rs : List Int} (h1 : H row = some (.lst (rs.map V.int))) (h2 : H sp = none) (h3 : rs ≠ []) (h4 : rs.length ≤ 4000) : Wd (upd H sp (.lst [.int 0])) row sp :=
  ⟨⟨0, rs, Int.le_refl 0, upd_same, upd_get h2 h1, h3, h4⟩, Ne.symm (new_ne h2 h1)⟩
/-! ### texts drawn, deeds told -/
def poolS : Str := "abcdefghijkl mnopqrstuvwxyz,ABCDEF.0123456789\n;:()[]<>=+-_~!#$&*/?@^{|}"
theorem pool_ok : poolS.cps.toList.all okC = true := by decide +kernel
theorem pool_len : poolS.length = 71 := by decide +kernel
theorem pool_at {r : Int} (h0 : 0 ≤ r) (h1 : r < 71) : ∃ c, atI poolS.cps.toList r = some c ∧ okC c = true := by
  have hl : poolS.cps.toList.length = 71 := by rw [← pool_len]; simp [Str.length]
  obtain ⟨j, rfl⟩ : ∃ j : Nat, r = (j : Int) := ⟨r.toNat, by omega⟩
  have hi : j < poolS.cps.toList.length := by omega
  exact ⟨_, atI_nat (List.getElem?_eq_getElem hi), List.all_eq_true.mp pool_ok _ (List.getElem_mem hi)⟩
theorem okT_nil : okT "" := fun c h => by
  have e : ("" : Str).cps.toList = [] := by decide +kernel
  rw [e] at h
  cases h
theorem okT_one {c : Nat} (h : okC c = true) : okT ⟨#[c]⟩ := fun b hb => by
  have : b = c := by simpa using hb
  rw [this]; exact h
theorem len_addS (a b : Str) : (a ++ b).length = a.length + b.length := by
  show (a ++ b).cps.size = _
  have e : (a ++ b).cps.toList = a.cps.toList ++ b.cps.toList := TL.tl_append a b
  have := congrArg List.length e
  rw [List.length_append] at this
  simpa [Str.length] using this
def sp__law_text : Sp := fun vs H Q _ => ∃ (row sp : Addr) (n : Nat), vs = [.ref row, .ref sp, .int (n : Int)] ∧ n ≤ 1000 ∧ Wd H row sp ∧ ∀ z H', okT z → z.length = n → Kp [sp] H H' → Wd H' row sp → Q (.str z) H'
theorem x_text {row sp : Addr} {r : Int} {H : Hp} {Q : VK} {E : XK} (h0 : 0 ≤ r) (h1 : r ≤ 1000) (W : Wd H row sp) (q : ∀ z H', okT z → (z.length : Int) = r → Kp [sp] H H' → Wd H' row sp → Q (.str z) H') : sp__law_text [.ref row, .ref sp, .int r] H Q E :=
  ⟨row, sp, r.toNat, by rw [Int.toNat_of_nonneg h0], by omega, W, fun z H' a b c d => q z H' a (by omega) c d⟩
theorem ok__law_text {f : Addr} {fd : FuncData} (F : Fun K "_law_text" "_law_text" s__law_text f fd) (T : Txt K mg C_Crashed C_Disk tk_GREATEST_FATE tk_LAST_CELL tk_MOST_CHARACTERS tk_MOST_FATES tk_MOST_STEPS C_BadValue fI_BadValue) (O__law_take : Ok P w K mg base 2 "_law_take" ["row", "spot", "limit"] (sp__law_take)) : FnOk P w K mg base CX0 3 f fd ["row", "spot", "many"] sp__law_text := by
  refine F.ok sc__law_text (fun vs H Q E h => ?_) (fun cdv A outer s H vs Q E hr h => ?_)
  · obtain ⟨row, sp, n, rfl, _⟩ := h
    rfl
  · obtain ⟨row, sp, n, rfl, hn, W, k⟩ := h
    refine ⟨_, d__law_text hr T O__law_take, ?_⟩
    unfold t__law_text
    refine x_start (σ' := [some (.ref row), some (.ref sp), some (.int n), none, none, none, none]) rfl ?_
    walk_at "sts"
    refine x_rng n (by omega) rfl ?_
    refine x_loopR (fun i σ H' => ∃ (z : Str) (x5 x6 : Option V), σ = [some (.ref row), some (.ref sp), some (.int n), some (.str poolS), some (.str z), x5, x6] ∧ okT z ∧ z.length = i ∧ Kp [sp] H H' ∧ Wd H' row sp) ?_ ?_ ?_
    · exact ⟨"", none, none, rfl, okT_nil, by decide +kernel, Kp.refl, W⟩
    · rintro i σ H' hi ⟨z, x5, x6, rfl, oz, lz, kk, W'⟩
      walk_at "sts"
      refine x_lenStr (by rw [pool_len]; decide) ?_
      rw [pool_len]
      walk_at "sts"
      refine x_take W' (by decide) fun r H2 r0 r1 k2 W2 => ?_
      obtain ⟨c, hc, oc⟩ := pool_at r0 r1
      walk_at "sts"
      refine x_ixStr (by rw [pool_len]; decide) hc ?_
      have l1 : (⟨#[c]⟩ : Str).length = 1 := rfl
      refine x_addS (by rw [l1]; omega) ?_
      walk_at "sts"
      exact ⟨_, _, _, rfl, okT_add oz (okT_one oc), by rw [len_addS, lz, l1], kk.trans k2, W2⟩
    · rintro σ H' ⟨z, x5, x6, rfl, oz, lz, kk, W'⟩
      walk_at "sts"
      exact k z H' oz lz kk W'
/-- the error that a suite reads -/
theorem bad_at {i : Nat} {K : PySem.W.Frag} {C : Addr} {σ : L2.St} {n : Int} {H : Hp} {Q : VK} {nx : L2.St → Hp → Prop} (he : PySem.W.exmOne K (.ref C) (.ref C) = some true) (hi : ∀ a : Addr, (σ.set i (some (.ref a)))[i]? = some (some (V.ref a))) (k : ∀ H', Same H H' → Q (.int n) H') (d : Addr) (hd : H d = none) :
    wAs K (.ref C) i (fun a cls d => tRet (Eat.tBy C a cls d (tVar i))) (fun _ _ _ _ => False) ⟨nx, Q, fun _ _ => False, fun _ _ => False⟩ (.ref C) (some d) σ (upd H d (.xd [(("at" : Str), .int n)])) := by
  refine ⟨true, he, fun _ a ha => ?_, fun z => nomatch z⟩
  refine x_ret ?_
  refine Eat.x_by (dd := d) (v := .int n) ?_ (fun Q Q' h ⟨v, e, q⟩ => ⟨v, e, h _ _ q⟩)
  exact ⟨_, hi a, rfl, upd_same, k _ (Same.new (Same.refl _) hd)⟩
/-! ### what the laws of disks share -/
section
variable {H H' : Hp} {C row sp p ce me pu : Addr} {F F' : List Addr} {st : DS} {i j : Nat}
theorem wd_nt {row sp : Addr} {H : Hp} (W : Wd H row sp) : NT [sp] H := by
  obtain ⟨⟨s, rs, _, e1, e2, _⟩, _⟩ := W
  exact nt_one e1 (fun _ z => nomatch z)
theorem wd_kp {row sp : Addr} {H H' : Hp} (W : Wd H row sp) (h1 : ∀ o, H sp = some o → H' sp = some o) (h2 : ∀ o, H row = some o → H' row = some o) : Wd H' row sp := by
  obtain ⟨⟨s, rs, a, b, c, d⟩, e⟩ := W
  exact ⟨⟨s, rs, a, h1 _ b, h2 _ c, d⟩, e⟩
theorem six_at {r : Int} (h0 : 0 ≤ r) (h1 : r < 6) {H : Hp} {ex : List Addr} {v0 v1 v2 v3 v4 v5 : V} {d0 d1 d2 d3 d4 d5 : Da} {G : Da → Prop} (p0 : Rp ex H v0 d0) (p1 : Rp ex H v1 d1) (p2 : Rp ex H v2 d2) (p3 : Rp ex H v3 d3) (p4 : Rp ex H v4 d4) (p5 : Rp ex H v5 d5) (g0 : G d0) (g1 : G d1) (g2 : G d2) (g3 : G d3) (g4 : G d4) (g5 : G d5) :
    ∃ v d, atI [v0, v1, v2, v3, v4, v5] r = some v ∧ Rp ex H v d ∧ G d := by
  have : r = 0 ∨ r = 1 ∨ r = 2 ∨ r = 3 ∨ r = 4 ∨ r = 5 := by omega
  rcases this with rfl | rfl | rfl | rfl | rfl | rfl
  · exact ⟨_, _, rfl, p0, g0⟩
  · exact ⟨_, _, rfl, p1, g1⟩
  · exact ⟨_, _, rfl, p2, g2⟩
  · exact ⟨_, _, rfl, p3, g3⟩
  · exact ⟨_, _, rfl, p4, g4⟩
  · exact ⟨_, _, rfl, p5, g5⟩
theorem five_at {r : Int} (h0 : 0 ≤ r) (h1 : r < 5) {H : Hp} {ex : List Addr} {v0 v1 v2 v3 v4 : V} {d0 d1 d2 d3 d4 : Da} {G : Da → Prop} (p0 : Rp ex H v0 d0) (p1 : Rp ex H v1 d1) (p2 : Rp ex H v2 d2) (p3 : Rp ex H v3 d3) (p4 : Rp ex H v4 d4) (g0 : G d0) (g1 : G d1) (g2 : G d2) (g3 : G d3) (g4 : G d4) :
    ∃ v d, atI [v0, v1, v2, v3, v4] r = some v ∧ Rp ex H v d ∧ G d := by
  have : r = 0 ∨ r = 1 ∨ r = 2 ∨ r = 3 ∨ r = 4 := by omega
  rcases this with rfl | rfl | rfl | rfl | rfl
  · exact ⟨_, _, rfl, p0, g0⟩
  · exact ⟨_, _, rfl, p1, g1⟩
  · exact ⟨_, _, rfl, p2, g2⟩
  · exact ⟨_, _, rfl, p3, g3⟩
  · exact ⟨_, _, rfl, p4, g4⟩
theorem four_int {r w j : Int} (h0 : 0 ≤ j) (h1 : j < 4) (r0 : 0 ≤ r) (r1 : r ≤ 1000000) (w0 : 0 ≤ w) (w1 : w ≤ 1000000) : ∃ c, atI [V.int 0, V.int 1000000, V.int r, V.int w] j = some (.int c) ∧ 0 ≤ c ∧ c ≤ 1000000 := by
  have : j = 0 ∨ j = 1 ∨ j = 2 ∨ j = 3 := by omega
  rcases this with rfl | rfl | rfl | rfl
  · exact ⟨_, rfl, by decide, by decide⟩
  · exact ⟨_, rfl, by decide, by decide⟩
  · exact ⟨_, rfl, r0, r1⟩
  · exact ⟨_, rfl, w0, w1⟩
theorem put_ok {k : Kv} {c : Int} {z : Str} (h : ∀ k' v, valV k k' = some v → ∃ z, v = .str z) : ∀ k' v, valV (putK k (.inl c) (.str z)) k' = some v → ∃ z, v = .str z := fun k' v e => by
  rw [valV_put] at e
  by_cases q : k' = .inl c
  · rw [if_pos q] at e
    cases e
    exact ⟨z, rfl⟩
  · rw [if_neg q] at e
    exact h _ _ e
theorem get_str {k : Kv} {c : Key} (h : ∀ k' v, valV k k' = some v → ∃ z, v = .str z) : ∃ z, (valV k c).getD (.str "") = .str z := by
  cases e : valV k c with
  | none => exact ⟨"", rfl⟩
  | some v =>
    obtain ⟨z, rfl⟩ := h _ _ e
    exact ⟨z, rfl⟩
end
theorem dn_intsT {ns : List Int} (h : ns.length ≤ 1000) : Dn 4 (intsT ns) := .tup (by rw [List.length_map]; exact h) fun d hd => by
  obtain ⟨i, _, rfl⟩ := List.mem_map.mp hd
  exact .int i
theorem same_make {H H2 H3 : Hp} {x dx : Addr} {o u : HO} (hx : H x = none) (hd : H dx = none) (ne : dx ≠ x) (k : Kp [x] (upd (upd H dx o) x u) H3) : Same H H3 := fun a w e => by
  have n1 : a ≠ x := fun z => by rw [z, hx] at e; cases e
  have n2 : a ≠ dx := fun z => by rw [z, hd] at e; cases e
  exact k _ _ (not1 n1) (upd_get' n1 (upd_get' n2 e))
theorem new_ne' {H : Hp} {a b : Addr} {o : HO} (h : H b = none) (e : H a = some o) : a ≠ b := Ne.symm (new_ne h e)
theorem x_dget {td ty : TE} {σ : L2.St} {H : Hp} {Q : VK} (q : td σ H fun x H1 => ty σ H1 fun y H2 => ∃ a v, x = .ref a ∧ DGet H2 a y (some v) ∧ Q v H2) : tDGet td ty σ H Q := q
theorem eqv_intsR : ∀ a : List Int, PyData.eqvAll (a.map .int) (a.map .int) = true
  | [] => by simp [PyData.eqvAll]
  | x :: a => by
    show PyData.eqvAll (.int x :: a.map .int) (.int x :: a.map .int) = true
    rw [PyData.eqvAll, eqv_intsR a, PyData.eqv]
    simp
theorem lay_intsR : ∀ a : List Int, PyData.canLayAll0 (a.map .int) = true
  | [] => by simp [PyData.canLayAll0]
  | x :: a => by
    show PyData.canLayAll0 (.int x :: a.map .int) = true
    rw [PyData.canLayAll0, lay_intsR a]
    simp [PyData.canLay0]
theorem depth_intsR : ∀ a : List Int, PyData.depthAll (a.map .int) = 0
  | [] => by simp [PyData.depthAll]
  | x :: a => by
    show PyData.depthAll (.int x :: a.map .int) = 0
    rw [PyData.depthAll, depth_intsR a]
    simp [PyData.depth]
theorem dpAll_ints {K : PySem.W.Frag} {H : Hp} : ∀ a : List Int, DpAll K H (a.map V.int) (a.map .int)
  | [] => .nil
  | x :: a => .cons (.int x) (dpAll_ints a)
theorem rps_xs {ex : List Addr} {H : Hp} {xs : List V} {ns : List Int} (r : Rps ex H xs (ns.map Da.int)) : xs = ns.map V.int := by
  refine List.ext_getElem (by rw [r.1]; simp) fun i h1 h2 => ?_
  have h3 : i < ns.length := by simpa using h2
  have z := r.2 i xs[i] (.int ns[i]) (List.getElem?_eq_getElem h1) (by rw [List.getElem?_map, List.getElem?_eq_getElem h3]; rfl)
  rw [z.intI, List.getElem_map]
theorem dp_intsT {K : PySem.W.Frag} {H : Hp} {ex : List Addr} {v : V} {a : List Int} (h : Rp ex H v (intsT a)) : Dp K H v (.tuple (a.map .int)) := by
  obtain ⟨p, xs, rfl, _, e, r⟩ := h.tupI
  have z := rps_xs r
  subst z
  exact .tup (SqT.of e) (dpAll_ints a)
/-- two pairs of rows of numbers, the same -/
theorem x_ne2 {K : PySem.W.Frag} {H : Hp} {Q : VK} {ex ex' : List Addr} {x y : V} {a b : List Int} (h1 : Rp ex H x (.tup [intsT a, intsT b])) (h2 : Rp ex' H y (.tup [intsT a, intsT b])) (q : Q (.bl false) H) : rNeX K x y H Q := by
  have dp : ∀ {ex : List Addr} {x : V}, Rp ex H x (.tup [intsT a, intsT b]) → Dp K H x (.tuple [.tuple (a.map .int), .tuple (b.map .int)]) := by
    intro ex x h
    obtain ⟨p, xs, rfl, _, e, r⟩ := h.tupI
    obtain ⟨u, hu, ru⟩ := rps_get r (i := 0) rfl
    obtain ⟨v, hv, rv⟩ := rps_get r (i := 1) rfl
    have l2 : xs.length = 2 := r.1
    have ex2 : xs = [u, v] := by
      match xs, l2 with
      | [x0, x1], _ => cases hu; cases hv; rfl
    subst ex2
    exact .tup (SqT.of e) (.cons (dp_intsT ru) (.cons (dp_intsT rv) .nil))
  have sh : SeqAt.shaped (.tuple [.tuple (a.map .int), .tuple (b.map .int)]) = true := by
    unfold SeqAt.shaped
    simp [PyData.canLay0, PyData.canLayAll0, PyData.depth, PyData.depthAll, lay_intsR, depth_intsR]
  refine .inr ⟨_, _, dp h1, dp h2, sh, sh, ?_⟩
  have e : PyData.eqv (.tuple [.tuple (a.map .int), .tuple (b.map .int)]) (.tuple [.tuple (a.map .int), .tuple (b.map .int)]) = true := by
    simp [PyData.eqv, PyData.eqvAll, eqv_intsR]
  rw [e]
  exact q
def sp__law_fates : Sp := fun vs H Q _ => ∃ (row sp : Addr) (n : Nat), vs = [.ref row, .ref sp, .int (n : Int)] ∧ n ≤ 1000 ∧ Wd H row sp ∧ ∀ v H' (fs : List Int), Kp [sp] H H' → Wd H' row sp → Rp [sp] H' v (intsT fs) → fs.length = n → (∀ f, f ∈ fs → 0 ≤ f ∧ f ≤ 10000) → Q v H'
theorem x_fates {row sp : Addr} {r : Int} {H : Hp} {Q : VK} {E : XK} (h0 : 0 ≤ r) (h1 : r ≤ 1000) (W : Wd H row sp) (q : ∀ v H' (fs : List Int), Kp [sp] H H' → Wd H' row sp → Rp [sp] H' v (intsT fs) → (fs.length : Int) = r → (∀ f, f ∈ fs → 0 ≤ f ∧ f ≤ 10000) → Q v H') : sp__law_fates [.ref row, .ref sp, .int r] H Q E :=
  ⟨row, sp, r.toNat, by rw [Int.toNat_of_nonneg h0], by omega, W, fun v H' fs a b c d e => q v H' fs a b c (by omega) e⟩
theorem four_fate {r w j : Int} (h0 : 0 ≤ j) (h1 : j < 4) (r0 : 0 ≤ r) (r1 : r ≤ 10000) (w0 : 0 ≤ w) (w1 : w ≤ 10000) : ∃ c, atI [V.int 0, V.int 10000, V.int r, V.int w] j = some (.int c) ∧ 0 ≤ c ∧ c ≤ 10000 := by
  have : j = 0 ∨ j = 1 ∨ j = 2 ∨ j = 3 := by omega
  rcases this with rfl | rfl | rfl | rfl
  · exact ⟨_, rfl, by decide, by decide⟩
  · exact ⟨_, rfl, by decide, by decide⟩
  · exact ⟨_, rfl, r0, r1⟩
  · exact ⟨_, rfl, w0, w1⟩
theorem ok__law_fates {f : Addr} {fd : FuncData} (F : Fun K "_law_fates" "_law_fates" s__law_fates f fd) (T : Txt K mg C_Crashed C_Disk tk_GREATEST_FATE tk_LAST_CELL tk_MOST_CHARACTERS tk_MOST_FATES tk_MOST_STEPS C_BadValue fI_BadValue) (O__law_take : Ok P w K mg base 2 "_law_take" ["row", "spot", "limit"] (sp__law_take)) : FnOk P w K mg base CX0 3 f fd ["row", "spot", "many"] sp__law_fates := by
  refine F.ok sc__law_fates (fun vs H Q E h => ?_) (fun cdv A outer s H vs Q E hr h => ?_)
  · obtain ⟨row, sp, n, rfl, _⟩ := h
    rfl
  · obtain ⟨row, sp, n, rfl, hn, W, k⟩ := h
    refine ⟨_, d__law_fates hr T O__law_take, ?_⟩
    unfold t__law_fates
    refine x_start (σ' := [some (.ref row), some (.ref sp), some (.int n), none, none, none]) rfl ?_
    walk_at "sts"
    refine x_mklN rfl (by decide) fun p H1 s1 z1 e1 => ?_
    walk_at "sts"
    have np : p ≠ sp := W.sp_ne z1
    have npr : p ≠ row := W.row_ne z1
    refine x_rng n (by omega) rfl ?_
    refine x_loopR (fun i σ H' => ∃ (fs : List Int) (x4 x5 : Option V), σ = [some (.ref row), some (.ref sp), some (.int n), some (.ref p), x4, x5] ∧ fs.length = i ∧ (∀ f, f ∈ fs → 0 ≤ f ∧ f ≤ 10000) ∧ Kp [sp] H H' ∧ Wd H' row sp ∧ H' p = some (.lst (fs.map V.int))) ?_ ?_ ?_
    · exact ⟨[], _, _, rfl, rfl, fun f z => (nomatch z), Same.kp s1, W.same s1, e1⟩
    · rintro i σ H' hi ⟨fs, x4, x5, rfl, lf, bf, kk, W', e⟩
      walk_at "sts"
      refine x_take W' (by decide) fun kd H2 a2 b2 k2 W2 => ?_
      walk_at "sts"
      have e2 := k2 _ _ (not1 np) e
      refine x_bmL e2 ?_
      walk_at "sts"
      refine x_take W2 (by decide) fun r3 H3 a3 b3 k3 W3 => ?_
      walk_at "sts"
      refine x_take W3 (by decide) fun r4 H4 a4 b4 k4 W4 => ?_
      walk_at "sts"
      refine x_mklN (m := 4) rfl (by decide) fun q H5 s5 z5 e5 => ?_
      walk_at "sts"
      obtain ⟨c, hc, c0, c1⟩ := four_fate a2 b2 a3 (by omega) a4 (by omega)
      refine x_ixL e5 hc ?_
      walk_at "sts"
      have e6 := s5 _ _ (k4 _ _ (not1 np) (k3 _ _ (not1 np) e2))
      refine x_app e6 (szm (by omega)) ?_
      walk_at "sts"
      have zp : H p = none := z1
      refine ⟨fs ++ [c], _, _, rfl, by simp [lf], fun f m => ?_, ((((kk.trans k2).trans k3).trans k4).same s5).own zp, (W4.same s5).own np npr, ?_⟩
      · rcases List.mem_append.mp m with m | m
        · exact bf f m
        · rw [List.mem_singleton.mp m]; exact ⟨c0, c1⟩
      · rw [map_snoc]; exact upd_same
    · rintro σ H' ⟨fs, x4, x5, rfl, lf, bf, kk, W', e⟩
      walk_at "sts"
      refine x_tupL (SqL.of e) fun l hl => ?_
      have s2 := Same.new (o := .tup (fs.map V.int)) (Same.refl H') hl
      exact k _ _ fs (kk.same s2) (W'.same s2) (rps_tup (rps_ints0 _) (fun z => W'.sp_ne hl (List.mem_singleton.mp z)) upd_same) lf bf
/-! ### deeds done, errors told -/
def DS.fails (st : DS) (kd : Int) : Bool := if kd < 2 then st.dead else st.dn
def DS.deed (st : DS) (kd c : Int) (z : Str) : DS :=
  if kd = 0 then (if st.dead then { st with dn := true } else { st.step with wa := st.wa ++ [(c, z)], sh := putK st.sh (.inl c) (.str z), cw := st.cw ++ [c] })
  else if kd = 1 then (if st.dead then { st with dn := true } else { st.step with du := syncK st.du st.wa, wa := [] })
  else if st.dn then st else { st with cr := st.cr ++ [c] }
theorem only_no {K : PySem.W.Frag} {C : Addr} {σ : L2.St} {H : Hp} {Q : VK} {n b c : L2.St → Hp → Prop} {Wo : WX} (he : PySem.W.exmOne K (.ref C) (.ref C) = some true) (q : Q (.bl false) H) :
    wOnly K (.ref C) (fun _ _ _ => tRet (tC (.bl false))) Wo ⟨n, Q, b, c⟩ (.ref C) none σ H := ⟨true, he, fun _ _ _ => x_ret (x_c q), fun z => nomatch z⟩
theorem notx_no {z : Str} (h : NoTx (.str z)) (l : z.length ≤ 2000) : False := by
  rcases h with q | ⟨z', e, q, _⟩
  · cases q
  · cases e; omega
theorem inD_cell {c : Int} (h0 : 0 ≤ c) (h1 : c ≤ 1000000) (q : inD 0 1000000 (.int c) = false) : False := by
  rw [inD_int h0 h1] at q; cases q
def sp__law_done (C : Addr) : Sp := fun vs H Q _ => ∃ (F : List Addr) (p : Addr) (st : DS) (kd c : Int) (z : Str), vs = [.ref p, .int kd, .int c, .str z] ∧ Dk H C F p st ∧ (kd = 0 ∨ kd = 1 ∨ kd = 2) ∧ 0 ≤ c ∧ c ≤ 1000000 ∧ z.length ≤ 2000 ∧ okT z ∧
  st.wa.length < 100000 ∧ st.sh.length < 100000 ∧ st.cw.length < 100000 ∧ st.cr.length < 100000 ∧ st.du.length + st.wa.length < 100000 ∧
  ∀ H' F', Fr F F' H H' → Dk H' C F' p (st.deed kd c z) → Q (.bl (!st.fails kd)) H'
theorem ok__law_done {f : Addr} {fd : FuncData} (F : Fun K "_law_done" "_law_done" s__law_done f fd) (T : Txt K mg C_Crashed C_Disk tk_GREATEST_FATE tk_LAST_CELL tk_MOST_CHARACTERS tk_MOST_FATES tk_MOST_STEPS C_BadValue fI_BadValue) (O_Disk__read : OkM (L2.CX P w) P w K mg base 4 C_Disk "read" ["self", "cell"] (sp_Disk__read C_Disk C_Crashed C_BadValue)) (O_Disk__sync : OkM (L2.CX P w) P w K mg base 4 C_Disk "sync" ["self"] (sp_Disk__sync C_Disk C_Crashed)) (O_Disk__write : OkM (L2.CX P w) P w K mg base 4 C_Disk "write" ["self", "cell", "text"] (sp_Disk__write C_Disk C_Crashed C_BadValue)) : FnOk P w K mg base CX0 5 f fd ["disk", "kind", "cell", "text"] (sp__law_done C_Disk) := by
  refine F.ok sc__law_done (fun vs H Q E h => ?_) (fun cdv A outer s H vs Q E hr h => ?_)
  · obtain ⟨F, p, st, kd, c, z, rfl, _⟩ := h
    rfl
  · obtain ⟨F, p, st, kd, c, z, rfl, hD, hk, c0, c1, lz, oz, l1, l2, l3, l4, l5, k⟩ := h
    refine ⟨_, d__law_done hr T O_Disk__read O_Disk__sync O_Disk__write, ?_⟩
    unfold t__law_done
    refine x_start (σ' := [some (.ref p), some (.int kd), some (.int c), some (.str z)]) rfl ?_
    walk_at "sts"
    refine x_tryO ?_
    walk_at "sts"
    obtain ⟨dx, a1, a2, a3, a4, a5, hp⟩ := hD.ins
    refine x_dec (fun e0 => ?_) (fun e0 => ?_)
    · subst e0
      walk_at "sts"
      refine x_m rfl hp rfl ?_
      walk_at "sts"
      refine ⟨[], F, p, st, .int c, .str z, .int c, .str z, rfl, hD, .int c, .str z, fun q => (inD_cell c0 c1 q).elim, fun _ nt => (notx_no nt lz).elim, fun _ => .inr ⟨c, z, rfl, rfl, lz, oz, (fun hd H' f' D' => ?_), fun hd => ⟨l1, l2, l3, fun H' f' D' => ?_⟩⟩⟩
      · have e1 : st.deed 0 c z = { st with dn := true } := by unfold DS.deed; rw [if_pos rfl, if_pos hd]
        have e2 : st.fails 0 = true := hd
        have q := k H' F f' (by rw [e1]; exact D')
        rw [e2] at q
        exact only_no T.x_Crashed_Crashed q
      · have e1 : st.deed 0 c z = { st.step with wa := st.wa ++ [(c, z)], sh := putK st.sh (.inl c) (.str z), cw := st.cw ++ [c] } := by unfold DS.deed; rw [if_pos rfl, hd, if_neg (fun q => nomatch q)]
        have e2 : st.fails 0 = false := hd
        have q := k H' F f' (by rw [e1]; exact D')
        rw [e2] at q
        walk_at "sts"
        exact q
    · walk_at "sts"
      refine x_dec (fun e1 => ?_) (fun e1 => ?_)
      · subst e1
        walk_at "sts"
        refine x_m rfl hp rfl ?_
        walk_at "sts"
        refine ⟨F, p, st, rfl, hD, (fun hd H' f' D' => ?_), fun hd => ⟨l5, fun H' F' f' D' => ?_⟩⟩
        · have e1 : st.deed 1 c z = { st with dn := true } := by unfold DS.deed; rw [if_neg (by decide), if_pos rfl, if_pos hd]
          have e2 : st.fails 1 = true := hd
          have q := k H' F f' (by rw [e1]; exact D')
          rw [e2] at q
          exact only_no T.x_Crashed_Crashed q
        · have e1 : st.deed 1 c z = { st.step with du := syncK st.du st.wa, wa := [] } := by unfold DS.deed; rw [if_neg (by decide), if_pos rfl, hd, if_neg (fun q => nomatch q)]
          have e2 : st.fails 1 = false := hd
          have q := k H' F' f' (by rw [e1]; exact D')
          rw [e2] at q
          walk_at "sts"
          exact q
      · have e3 : kd = 2 := by omega
        subst e3
        walk_at "sts"
        refine x_m rfl hp rfl ?_
        walk_at "sts"
        refine ⟨[], F, p, st, .int c, .int c, rfl, hD, .int c, fun q => (inD_cell c0 c1 q).elim, fun _ => ⟨c, rfl, (fun hd => ?_), fun hd => ⟨l4, fun H' f' D' => ?_⟩⟩⟩
        · have e1 : st.deed 2 c z = st := by unfold DS.deed; rw [if_neg (by decide), if_neg (by decide), if_pos hd]
          have e2 : st.fails 2 = true := hd
          have q := k H F Fr.refl (by rw [e1]; exact hD)
          rw [e2] at q
          exact only_no T.x_Crashed_Crashed q
        · have e1 : st.deed 2 c z = { st with cr := st.cr ++ [c] } := by unfold DS.deed; rw [if_neg (by decide), if_neg (by decide), hd, if_neg (fun q => nomatch q)]
          have e2 : st.fails 2 = false := hd
          have q := k H' F f' (by rw [e1]; exact D')
          rw [e2] at q
          walk_at "sts"
          exact q
def NoFates (d : Da) : Prop := d.isSeq = false ∨ ∃ ds, d.seq ds ∧ ds.length ≤ 10000 ∧ fatesB ds = false
def sp__law_off_at (C : Addr) : Sp := fun vs H Q _ => ∃ (ex F : List Addr) (p : Addr) (st : DS) (nm : Int) (v : V) (d : Da), vs = [.ref p, .int nm, v] ∧ Dk H C F p st ∧ Rp ex H v d ∧ Live ex H ∧
  ((nm = 0 ∧ inD 0 1000000 d = false ∧ ∀ H', Same H H' → Q (.int 0) H') ∨ (nm = 1 ∧ NoFates d ∧ ∀ H', Same H H' → Q (.int 0) H') ∨
   (nm = 2 ∧ ∃ y : Int, d = .int y ∧ (y = 0 ∨ y = 1 ∨ y = 2) ∧ ∀ H', Same H H' → Q (.int (if y = 2 then 1 else 0)) H'))
theorem ok__law_off_at {f : Addr} {fd : FuncData} (F : Fun K "_law_off_at" "_law_off_at" s__law_off_at f fd) (T : Txt K mg C_Crashed C_Disk tk_GREATEST_FATE tk_LAST_CELL tk_MOST_CHARACTERS tk_MOST_FATES tk_MOST_STEPS C_BadValue fI_BadValue) (O_Disk__limit : OkM (L2.CX P w) P w K mg base 3 C_Disk "limit" ["self", "steps"] (sp_Disk__limit C_Disk C_BadValue)) (O_Disk__read : OkM (L2.CX P w) P w K mg base 4 C_Disk "read" ["self", "cell"] (sp_Disk__read C_Disk C_Crashed C_BadValue)) (O_Disk__restart : OkM (L2.CX P w) P w K mg base 4 C_Disk "restart" ["self", "fates"] (sp_Disk__restart C_Disk C_BadValue)) (O_Disk__write : OkM (L2.CX P w) P w K mg base 4 C_Disk "write" ["self", "cell", "text"] (sp_Disk__write C_Disk C_Crashed C_BadValue)) : FnOk P w K mg base CX0 5 f fd ["disk", "name", "value"] (sp__law_off_at C_Disk) := by
  refine F.ok sc__law_off_at (fun vs H Q E h => ?_) (fun cdv A outer s H vs Q E hr h => ?_)
  · obtain ⟨ex, F, p, st, nm, v, d, rfl, _⟩ := h
    rfl
  · obtain ⟨ex, F, p, st, nm, v, d, rfl, hD, r1, L, k⟩ := h
    refine ⟨_, d__law_off_at hr T O_Disk__limit O_Disk__read O_Disk__restart O_Disk__write, ?_⟩
    unfold t__law_off_at
    refine x_start (σ' := [some (.ref p), some (.int nm), some v, none]) rfl ?_
    walk_at "sts"
    refine x_try ?_
    walk_at "sts"
    obtain ⟨dx, a1, a2, a3, a4, a5, hp⟩ := hD.ins
    rcases k with ⟨rfl, nd, k⟩ | ⟨rfl, nf, k⟩ | ⟨rfl, y, rfl, hy, k⟩
    · refine x_dec (fun _ => ?_) (fun z => absurd rfl z)
      walk_at "sts"
      refine x_m rfl hp rfl ?_
      walk_at "sts"
      exact ⟨ex, F, p, st, v, d, rfl, hD, r1, fun _ d hd => bad_at T.e_BadValue.te (fun _ => rfl) k d hd, fun q => by rw [nd] at q; cases q⟩
    · refine x_dec (fun z => absurd z (by decide)) (fun _ => ?_)
      walk_at "sts"
      refine x_dec (fun _ => ?_) (fun z => absurd rfl z)
      walk_at "sts"
      refine x_m rfl hp rfl ?_
      walk_at "sts"
      rcases nf with q | ⟨ds, hd, hl, hb⟩
      · exact ⟨ex, F, p, st, v, d, rfl, hD, r1, L, .inl ⟨q, fun H' dd s' hdd => bad_at T.e_BadValue.te (fun _ => rfl) (fun H'' s'' => k H'' (s'.trans s'')) dd hdd⟩⟩
      · exact ⟨ex, F, p, st, v, d, rfl, hD, r1, L, .inr (.inl ⟨ds, hd, hl, hb, fun H' dd s' hdd => bad_at T.e_BadValue.te (fun _ => rfl) (fun H'' s'' => k H'' (s'.trans s'')) dd hdd⟩)⟩
    · cases r1.intI
      refine x_dec (fun z => absurd z (by decide)) (fun _ => ?_)
      walk_at "sts"
      refine x_dec (fun z => absurd z (by decide)) (fun _ => ?_)
      walk_at "sts"
      refine x_dec (fun z => ?_) (fun z => ?_)
      · subst z
        walk_at "sts"
        refine x_m rfl hp rfl ?_
        walk_at "sts"
        refine x_dec (fun _ => ?_) (fun z => absurd rfl z)
        walk_at "sts"
        refine x_dec (fun z => absurd z (by decide)) (fun _ => ?_)
        walk_at "sts"
        refine .inr ⟨"a", rfl, rfl, ?_⟩
        walk_at "sts"
        exact ⟨[], F, p, st, .int (-1), .str "a", .int (-1), .str "a", rfl, hD, .int _, .str _, fun _ d hd => bad_at T.e_BadValue.te (fun _ => rfl) k d hd, (fun q => nomatch q), fun q => nomatch q⟩
      · walk_at "sts"
        refine x_dec (fun z2 => ?_) (fun z2 => ?_)
        · subst z2
          walk_at "sts"
          refine x_m rfl hp rfl ?_
          walk_at "sts"
          refine x_dec (fun z => absurd z (by decide)) (fun _ => ?_)
          walk_at "sts"
          refine x_dec (fun _ => ?_) (fun z => absurd rfl z)
          walk_at "sts"
          refine .inl (x_mulS (n := 2001) rfl (by decide) (by decide) (by decide +kernel) (by decide +kernel) ?_)
          walk_at "sts"
          have nt : NoTx (.str (repS "a" 2001)) := .inr ⟨_, rfl, by rw [repS_len]; decide +kernel, by rw [repS_len]; decide +kernel⟩
          exact ⟨[], F, p, st, .int 3, .str (repS "a" 2001), .int 3, .str (repS "a" 2001), rfl, hD, .int _, .str _, (fun q => nomatch q), fun _ _ d hd => bad_at T.e_BadValue.te (fun _ => rfl) k d hd, fun _ => .inl nt⟩
        · have e3 : y = 1 := by omega
          subst e3
          walk_at "sts"
          refine x_m rfl hp rfl ?_
          walk_at "sts"
          exact ⟨[], F, p, st, .int 1000001, .int 1000001, rfl, hD, .int _, fun _ d hd => bad_at T.e_BadValue.te (fun _ => rfl) k d hd, fun q => nomatch q⟩
/-! ### the law's cells beside the disk's -/
def Rel (du kv : Kv) : Prop := ∀ c, oldS du c = oldS kv c
theorem oldS_put (du : Kv) (c c' : Int) (z : Str) : oldS (putK du (.inl c) (.str z)) c' = if c' = c then z else oldS du c' := by
  unfold oldS
  rw [valV_put]
  by_cases h : c' = c
  · rw [if_pos h, if_pos (by rw [h])]
  · rw [if_neg h, if_neg (fun q => h (by injection q))]
theorem Rel.put {du kv : Kv} (h : Rel du kv) (c : Int) (z : Str) : Rel (putK du (.inl c) (.str z)) (putK kv (.inl c) (.str z)) := fun c' => by
  rw [oldS_put, oldS_put, h c']
theorem Rel.fate {du kv : Kv} (h : Rel du kv) (e : (Int × Str) × Int) : Rel (fate1 du e) (fate1 kv e) := by
  unfold fate1
  rw [h e.1.1]
  exact h.put _ _
theorem Rel.sync : ∀ (wa : List (Int × Str)) {du kv : Kv}, Rel du kv → Rel (syncK du wa) (syncK kv wa)
  | [], _, _, h => h
  | e :: wa, _, _, h => Rel.sync wa (h.put e.1 e.2)
theorem cut0 (z o : Str) : cutAt z o 0 = o := by
  unfold cutAt
  have e1 : HT.sIx z.length z.length (some 0) = 0 := by simp [HT.sIx]
  have e2 : HT.sIx o.length 0 (some 0) = 0 := by simp [HT.sIx]
  have a : (cutS z none (some 0)).cps.toList = [] := by
    unfold cutS
    rw [e1]
    simp
  have b : (cutS o (some 0) none).cps.toList = o.cps.toList := by
    unfold cutS
    rw [e2]
    have : HT.sIx o.length o.length none = o.length := by simp [HT.sIx]
    rw [this]
    simp only [Str.length, Nat.sub_zero, List.drop_zero]
    show List.take (o.cps.size - 0) (List.drop 0 o.cps.toList) = o.cps.toList
    rw [List.drop_zero]
    exact List.take_of_length_le (by simp)
  refine TL.ext_tl ?_
  show (cutS z none (some 0) ++ cutS o (some 0) none).cps.toList = o.cps.toList
  have e : (cutS z none (some 0) ++ cutS o (some 0) none).cps.toList = (cutS z none (some 0)).cps.toList ++ (cutS o (some 0) none).cps.toList := TL.tl_append _ _
  rw [e, a, b]
  rfl
theorem Rel.nought {du kv : Kv} (h : Rel du kv) (e : Int × Str) : Rel du (fate1 kv (e, 0)) := fun c => by
  unfold fate1
  rw [oldS_put, cut0]
  by_cases q : c = e.1
  · rw [if_pos q, q]; exact h _
  · rw [if_neg q]; exact h _
theorem Rel.noughtL {du kv : Kv} (h : Rel du kv) (e : Int × Str) : Rel (fate1 du (e, 0)) kv := fun c => by
  unfold fate1
  rw [oldS_put, cut0]
  by_cases q : c = e.1
  · rw [if_pos q, q]; exact h _
  · rw [if_neg q]; exact h _
/-- as many fates as writes -/
def padF : List Int → Nat → List Int
  | _, 0 => []
  | [], n + 1 => 0 :: padF [] n
  | f :: fs, n + 1 => f :: padF fs n
theorem padF_at : ∀ (fs : List Int) (n k : Nat), k < n → (padF fs n)[k]? = some (fs.getD k 0)
  | _, 0, _, h => absurd h (Nat.not_lt_zero _)
  | [], n + 1, 0, _ => rfl
  | [], n + 1, k + 1, h => by
    show (padF [] n)[k]? = _
    rw [padF_at [] n k (by omega)]
    rfl
  | f :: fs, n + 1, 0, _ => rfl
  | f :: fs, n + 1, k + 1, h => by
    show (padF fs n)[k]? = _
    rw [padF_at fs n k (by omega)]
    rfl
theorem padF_len : ∀ (fs : List Int) (n : Nat), (padF fs n).length = n
  | _, 0 => rfl
  | [], n + 1 => by show (padF [] n).length + 1 = n + 1; rw [padF_len]
  | f :: fs, n + 1 => by show (padF fs n).length + 1 = n + 1; rw [padF_len]
theorem Rel.rest : ∀ (wa : List (Int × Str)) (fs : List Int) {du kv : Kv}, Rel du kv → Rel (restK du (wa.zip fs)) (restK kv (wa.zip (padF fs wa.length)))
  | [], fs, _, _, h => h
  | e :: wa, [], du, kv, h => by
    have z := Rel.rest wa [] (h.nought e)
    have e0 : wa.zip ([] : List Int) = [] := List.zip_nil_right
    rw [e0] at z
    exact z
  | e :: wa, f :: fs, du, kv, h => Rel.rest wa fs (h.fate (e, f))
theorem SK.sync {M : Nat} : ∀ (wa : List (Int × Str)) {du : Kv} {B : Nat}, SK du B → (∀ e, e ∈ wa → e.2.length ≤ M) → SK (syncK du wa) (B + M * wa.length)
  | [], du, B, h, _ => h
  | e :: wa, du, B, h, hm => by
    have h1 := SK.sync (M := M) wa (h.put (c := e.1) (z := e.2) (B' := B + M) (Nat.le_add_right _ _) (by have := hm e List.mem_cons_self; omega)) fun e' m => hm e' (List.mem_cons_of_mem _ m)
    have ea : B + M + M * wa.length = B + M * (e :: wa).length := by rw [List.length_cons, Nat.mul_succ]; omega
    rw [ea] at h1
    exact h1
theorem SK.mono {du : Kv} {B B' : Nat} (h : SK du B) (hb : B ≤ B') : SK du B' := fun k v e => by
  obtain ⟨z, e1, e2⟩ := h k v e
  exact ⟨z, e1, Nat.le_trans e2 hb⟩
theorem fates_ok {fs : List Int} (h : ∀ f, f ∈ fs → 0 ≤ f ∧ f ≤ 10000) : fatesB (fs.map Da.int) = true := by
  unfold fatesB
  rw [List.all_eq_true]
  intro b hb
  rw [List.map_map] at hb
  obtain ⟨f, hf, rfl⟩ := List.mem_map.mp hb
  exact inD_int (h f hf).1 (h f hf).2
theorem Rp.ntk {ex G : List Addr} {H H' : Hp} {v : V} {d : Da} (h : Rp ex H v d) (k : Kp G H H') (t : NT G H) : ∀ {n : Nat}, Dn n d → Rp ex H' v d := by
  induction h with
  | non => intro _ _; exact .non
  | bl b => intro _ _; exact .bl b
  | int i => intro _ _; exact .int i
  | str s => intro _ _; exact .str s
  | tup n e l _ ih => intro m hm; cases hm with | tup hl hd => exact .tup n (k _ _ (fun z => t _ z _ e) e) l fun i x d h1 h2 => ih i x d h1 h2 (hd d (List.mem_of_getElem? h2))
  | lst n e l _ _ => intro m hm; cases hm
/-! ### the law's own lists beside a disk -/
structure Lw (H : Hp) (C row sp p : Addr) (F : List Addr) (st : DS) (X : List (Addr × HO)) (wr : List V) (es : List (Int × Str)) : Prop where
  wd : Wd H row sp
  dk : Dk H C F p st
  hx : ∀ e, e ∈ X → H e.1 = some e.2
  nt : ∀ e, e ∈ X → ∀ xs, e.2 ≠ .tup xs
  nd : ((sp :: row :: X.map Prod.fst) ++ F).Nodup
  pw : Prs H wr es
section
variable {H H' : Hp} {C row sp p a : Addr} {F F' : List Addr} {st st' : DS} {X X' : List (Addr × HO)} {wr wr' : List V} {es es' : List (Int × Str)} {o u : HO} {i : Nat}
theorem Lw.live (L : Lw H C row sp p F st X wr es) : ∀ a, a ∈ sp :: row :: X.map Prod.fst → ∃ o, H a = some o := by
  obtain ⟨⟨s, rs, _, e1, e2, _⟩, _⟩ := L.wd
  intro a m
  rcases List.mem_cons.mp m with rfl | m
  · exact ⟨_, e1⟩
  rcases List.mem_cons.mp m with rfl | m
  · exact ⟨_, e2⟩
  obtain ⟨e, he, rfl⟩ := List.mem_map.mp m
  exact ⟨_, L.hx e he⟩
theorem Lw.ne (L : Lw H C row sp p F st X wr es) {e : Addr × HO} (m : e ∈ X) : sp ≠ e.1 ∧ row ≠ e.1 ∧ e.1 ∉ F := by
  have nd := L.nd
  rw [List.nodup_append] at nd
  obtain ⟨n1, n2, n3⟩ := nd
  rw [List.nodup_cons, List.nodup_cons] at n1
  have mm : e.1 ∈ X.map Prod.fst := List.mem_map.mpr ⟨e, m, rfl⟩
  refine ⟨fun q => n1.1 (List.mem_cons_of_mem _ (q ▸ mm)), fun q => n1.2.1 (q ▸ mm), fun q => n3 e.1 (List.mem_cons_of_mem _ (List.mem_cons_of_mem _ mm)) e.1 q rfl⟩
theorem Lw.take (L : Lw H C row sp p F st X wr es) (k : Kp [sp] H H') (W : Wd H' row sp) : Lw H' C row sp p F st X wr es :=
  ⟨W, L.dk.kp k (fun a m => by rw [List.mem_singleton.mp m]; exact out_of L.nd List.mem_cons_self) (wd_nt L.wd), fun e m => k _ _ (not1 (Ne.symm (L.ne m).1)) (L.hx e m), L.nt, L.nd, L.pw.kp k (wd_nt L.wd)⟩
theorem Lw.same (L : Lw H C row sp p F st X wr es) (s : Same H H') : Lw H' C row sp p F st X wr es := L.take (Same.kp s) (L.wd.same s)
theorem Lw.deed (L : Lw H C row sp p F st X wr es) (f : Fr F F' H H') (D : Dk H' C F' p st') : Lw H' C row sp p F' st' X wr es :=
  ⟨wd_kp L.wd (fun o e => f.get L.nd List.mem_cons_self e) (fun o e => f.get L.nd (List.mem_cons_of_mem _ List.mem_cons_self) e), D,
   fun e m => f.get L.nd (List.mem_cons_of_mem _ (List.mem_cons_of_mem _ (List.mem_map.mpr ⟨e, m, rfl⟩))) (L.hx e m), L.nt, f.nodup L.nd D.nd L.live, L.pw.kp f.kp L.dk.nt⟩
theorem Lw.prs (L : Lw H C row sp p F st X wr es) (q : Prs H wr' es') : Lw H C row sp p F st X wr' es' := ⟨L.wd, L.dk, L.hx, L.nt, L.nd, q⟩
theorem fst_inj {X : List (Addr × HO)} (n : (X.map Prod.fst).Nodup) {e e' : Addr × HO} (h1 : e ∈ X) (h2 : e' ∈ X) (q : e.1 = e'.1) : e = e' := by
  induction X with
  | nil => cases h1
  | cons x X ih =>
    rw [List.map_cons, List.nodup_cons] at n
    rcases List.mem_cons.mp h1 with r1 | r1 <;> rcases List.mem_cons.mp h2 with r2 | r2
    · rw [r1, r2]
    · exact absurd (List.mem_map.mpr ⟨e', r2, by rw [← q, r1]⟩) n.1
    · exact absurd (List.mem_map.mpr ⟨e, r1, by rw [q, r2]⟩) n.1
    · exact ih n.2 r1 r2
/-- the front list changed -/
theorem Lw.put (L : Lw H C row sp p F st ((a, o) :: X) wr es) (k : Kp [a] H H') (e : H' a = some u) (n : ∀ xs, u ≠ .tup xs) : Lw H' C row sp p F st ((a, u) :: X) wr es := by
  obtain ⟨n1, n2, n3⟩ := L.ne (e := (a, o)) List.mem_cons_self
  have ntt : NT [a] H := nt_one (L.hx (a, o) List.mem_cons_self) (L.nt (a, o) List.mem_cons_self)
  have nX : ∀ e, e ∈ X → e.1 ≠ a := fun e m q => by
    have nd := (List.nodup_append.mp L.nd).1
    rw [List.nodup_cons, List.nodup_cons, List.map_cons, List.nodup_cons] at nd
    exact nd.2.2.1 (List.mem_map.mpr ⟨e, m, q⟩)
  refine ⟨wd_kp L.wd (fun o e => k _ _ (not1 n1) e) (fun o e => k _ _ (not1 n2) e), L.dk.kp k (fun b m => by rw [List.mem_singleton.mp m]; exact n3) ntt, fun e' m => ?_, fun e' m => ?_, L.nd, L.pw.kp k ntt⟩
  · rcases List.mem_cons.mp m with rfl | m
    · exact e
    · exact k _ _ (not1 (nX e' m)) (L.hx e' (List.mem_cons_of_mem _ m))
  · rcases List.mem_cons.mp m with rfl | m
    · exact n
    · exact L.nt e' (List.mem_cons_of_mem _ m)
theorem Lw.new (L : Lw H C row sp p F st X wr es) (s : Same H H') (z : H a = none) (e : H' a = some o) (n : ∀ xs, o ≠ .tup xs) : Lw H' C row sp p F st ((a, o) :: X) wr es := by
  have L' := L.same s
  have nin : ∀ b, (∃ o, H b = some o) → a ≠ b := fun b ⟨o, q⟩ => new_ne z q
  refine ⟨L'.wd, L'.dk, fun e' m => ?_, fun e' m => ?_, ?_, L'.pw⟩
  · rcases List.mem_cons.mp m with rfl | m
    · exact e
    · exact L'.hx e' m
  · rcases List.mem_cons.mp m with rfl | m
    · exact n
    · exact L'.nt e' m
  · have nd := L.nd
    rw [List.nodup_append] at nd ⊢
    refine ⟨?_, nd.2.1, fun x hx y hy q => ?_⟩
    · have n1 := nd.1
      rw [List.nodup_cons, List.nodup_cons] at n1
      rw [List.map_cons, List.nodup_cons, List.nodup_cons, List.nodup_cons]
      refine ⟨fun q => ?_, fun q => ?_, fun q => ?_, n1.2.2⟩
      · rcases List.mem_cons.mp q with q | q
        · exact n1.1 (q ▸ List.mem_cons_self)
        · rcases List.mem_cons.mp q with q | q
          · exact nin sp (L.live _ List.mem_cons_self) q.symm
          · exact n1.1 (List.mem_cons_of_mem _ q)
      · rcases List.mem_cons.mp q with q | q
        · exact nin row (L.live _ (List.mem_cons_of_mem _ List.mem_cons_self)) q.symm
        · exact n1.2.1 q
      · exact nin a (L.live _ (List.mem_cons_of_mem _ (List.mem_cons_of_mem _ q))) rfl
    · rw [List.map_cons] at hx
      rcases List.mem_cons.mp hx with rfl | hx
      · exact nd.2.2 x List.mem_cons_self y hy q
      rcases List.mem_cons.mp hx with rfl | hx
      · exact nd.2.2 x (List.mem_cons_of_mem _ List.mem_cons_self) y hy q
      rcases List.mem_cons.mp hx with rfl | hx
      · exact nin y (L.dk.live y hy) q
      · exact nd.2.2 x (List.mem_cons_of_mem _ (List.mem_cons_of_mem _ hx)) y hy q
theorem Lw.perm (L : Lw H C row sp p F st X wr es) (q : X.Perm X') : Lw H C row sp p F st X' wr es :=
  ⟨L.wd, L.dk, fun e m => L.hx e (q.mem_iff.mpr m), fun e m => L.nt e (q.mem_iff.mpr m), (List.Perm.nodup_iff ((((q.map _).cons _).cons _).append_right F)).mp L.nd, L.pw⟩
theorem Lw.sub (L : Lw H C row sp p F st X wr es) (q : X'.Sublist X) : Lw H C row sp p F st X' wr es :=
  ⟨L.wd, L.dk, fun e m => L.hx e (q.subset m), fun e m => L.nt e (q.subset m), List.Nodup.sublist ((((q.map _).cons_cons _).cons_cons _).append_right F) L.nd, L.pw⟩
end
/-! ### cells 0, 1 and 2 -/
def csV (kv : Kv) : List V := [.str (oldS kv 0), .str (oldS kv 1), .str (oldS kv 2)]
theorem cs_at {kv : Kv} {c : Int} (h0 : 0 ≤ c) (h1 : c < 3) : atI (csV kv) c = some (.str (oldS kv c)) := by
  have : c = 0 ∨ c = 1 ∨ c = 2 := by omega
  rcases this with rfl | rfl | rfl <;> rfl
theorem cs_set {kv : Kv} {c : Int} {z : Str} (h0 : 0 ≤ c) (h1 : c < 3) : ∃ m, ixN (csV kv).length c = some m ∧ (csV kv).set m (.str z) = csV (putK kv (.inl c) (.str z)) := by
  have : c = 0 ∨ c = 1 ∨ c = 2 := by omega
  rcases this with rfl | rfl | rfl
  · refine ⟨0, rfl, ?_⟩
    unfold csV
    rw [oldS_put, oldS_put, oldS_put]
    rfl
  · refine ⟨1, rfl, ?_⟩
    unfold csV
    rw [oldS_put, oldS_put, oldS_put]
    rfl
  · refine ⟨2, rfl, ?_⟩
    unfold csV
    rw [oldS_put, oldS_put, oldS_put]
    rfl
theorem cs_rel {du kv : Kv} (h : Rel du kv) : csV du = csV kv := by
  unfold csV
  rw [h 0, h 1, h 2]
theorem cs_far {du : Kv} {c : Int} {z : Str} (h : 3 ≤ c) : csV (putK du (.inl c) (.str z)) = csV du := by
  unfold csV
  rw [oldS_put, oldS_put, oldS_put, if_neg (by omega), if_neg (by omega), if_neg (by omega)]
theorem cs_farL : ∀ (wa : List (Int × Str)) {du : Kv}, (∀ e, e ∈ wa → 3 ≤ e.1) → csV (syncK du wa) = csV du
  | [], _, _ => rfl
  | e :: wa, du, h => by
    have := cs_farL wa (du := putK du (.inl e.1) (.str e.2)) fun e' m => h e' (List.mem_cons_of_mem _ m)
    exact this.trans (cs_far (h e List.mem_cons_self))
theorem sync_snoc {du : Kv} {wa : List (Int × Str)} {c : Int} {z : Str} : syncK du (wa ++ [(c, z)]) = putK (syncK du wa) (.inl c) (.str z) := by
  unfold syncK
  rw [List.foldl_append]
  rfl
/-! ### how large a disk has grown -/
structure Pd (st : DS) (B T : Nat) : Prop where
  s1 : SK st.du B
  wm : ∀ e, e ∈ st.wa → e.2.length ≤ 30
  l1 : B + 30 * st.wa.length ≤ 30 * T
  l2 : st.du.length + st.wa.length ≤ T
  l4 : st.sh.length ≤ T
  l5 : st.cw.length ≤ T
  l6 : st.cr.length ≤ T
section
variable {st : DS} {B B' T T' : Nat} {c kd left : Int} {z : Str} {down : Bool}
theorem Pd.mono (h : Pd st B T) (q : T ≤ T') : Pd st B T' := ⟨h.s1, h.wm, by have := h.l1; omega, Nat.le_trans h.l2 q, Nat.le_trans h.l4 q, Nat.le_trans h.l5 q, Nat.le_trans h.l6 q⟩
theorem Pd.keep (h : Pd st B T) {st' : DS} (e1 : st'.du = st.du) (e2 : st'.wa = st.wa) (e3 : st'.sh = st.sh) (e4 : st'.cw = st.cw) (e5 : st'.cr = st.cr) : Pd st' B T :=
  ⟨by rw [e1]; exact h.s1, by rw [e2]; exact h.wm, by rw [e2]; exact h.l1, by rw [e1, e2]; exact h.l2, by rw [e3]; exact h.l4, by rw [e4]; exact h.l5, by rw [e5]; exact h.l6⟩
theorem Pd.write (h : Pd st B T) (hz : z.length ≤ 30) : Pd { st.step with wa := st.wa ++ [(c, z)], sh := putK st.sh (.inl c) (.str z), cw := st.cw ++ [c] } B (T + 1) := by
  refine ⟨h.s1, fun e m => ?_, ?_, ?_, ?_, ?_, Nat.le_succ_of_le h.l6⟩
  · rcases List.mem_append.mp m with m | m
    · exact h.wm e m
    · rw [List.mem_singleton.mp m]; exact hz
  · show B + 30 * (st.wa ++ [(c, z)]).length ≤ _
    rw [List.length_append]
    have := h.l1
    show B + 30 * (st.wa.length + 1) ≤ _
    omega
  · show st.du.length + (st.wa ++ [(c, z)]).length ≤ _
    rw [List.length_append]
    have := h.l2
    show st.du.length + (st.wa.length + 1) ≤ _
    omega
  · exact Nat.le_trans (length_putK st.sh (.inl c) (.str z)) (Nat.succ_le_succ h.l4)
  · show (st.cw ++ [c]).length ≤ _
    rw [List.length_append]
    exact Nat.succ_le_succ h.l5
theorem Pd.sync (h : Pd st B T) : Pd { st.step with du := syncK st.du st.wa, wa := [] } (B + 30 * st.wa.length) T :=
  ⟨SK.sync _ h.s1 h.wm, fun e m => (nomatch m), h.l1, Nat.le_trans (syncK_len _ _) h.l2, h.l4, h.l5, h.l6⟩
theorem Pd.read (h : Pd st B T) : Pd { st with cr := st.cr ++ [c] } B (T + 1) := by
  have g := h.mono (Nat.le_succ T)
  refine ⟨g.s1, g.wm, g.l1, g.l2, g.l4, g.l5, ?_⟩
  show (st.cr ++ [c]).length ≤ _
  rw [List.length_append]
  exact Nat.succ_le_succ h.l6
theorem Pd.deed (h : Pd st B T) (hz : z.length ≤ 30) : ∃ B', Pd (st.deed kd c z) B' (T + 1) := by
  unfold DS.deed
  by_cases e0 : kd = 0
  · rw [if_pos e0]
    cases hd : st.dead with
    | true => exact ⟨B, (h.mono (Nat.le_succ T)).keep rfl rfl rfl rfl rfl⟩
    | false => exact ⟨B, h.write hz⟩
  rw [if_neg e0]
  by_cases e1 : kd = 1
  · rw [if_pos e1]
    cases hd : st.dead with
    | true => exact ⟨B, (h.mono (Nat.le_succ T)).keep rfl rfl rfl rfl rfl⟩
    | false => exact ⟨_, h.sync.mono (Nat.le_succ T)⟩
  rw [if_neg e1]
  by_cases hd : st.dn = true
  · rw [if_pos hd]; exact ⟨B, h.mono (Nat.le_succ T)⟩
  · rw [if_neg hd]; exact ⟨B, h.read⟩
theorem Pd.rest (h : Pd st B T) (fs : List Int) : Pd { st with du := restK st.du (st.wa.zip fs), sh := restK st.du (st.wa.zip fs), wa := [], left := none, dn := false } (B + 30 * st.wa.length) T := by
  have zle : (st.wa.zip fs).length ≤ st.wa.length := by rw [List.length_zip]; omega
  have lr : (restK st.du (st.wa.zip fs)).length ≤ T := Nat.le_trans (restK_len _ _) (by have := h.l2; omega)
  exact ⟨(SK.rest (M := 30) _ h.s1 fun e' q => h.wm _ (List.of_mem_zip q).1).mono (by omega), fun e m => (nomatch m), h.l1, lr, lr, h.l5, h.l6⟩
/-- the law's count of steps beside the disk's -/
def Rd (st : DS) (left : Int) (down : Bool) : Prop := st.dn = down ∧ 0 ≤ left ∧ (down = false → st.left = some left)
def dnN (kd left : Int) (down : Bool) : Bool := if kd < 2 then down || decide (left = 0) else down
def leN (kd left : Int) : Int := if kd < 2 then (if left - 1 > 0 then left - 1 else 0) else left
theorem Rd.fails (h : Rd st left down) : st.fails kd = dnN kd left down := by
  obtain ⟨h1, h2, h3⟩ := h
  unfold DS.fails dnN DS.dead
  by_cases q : kd < 2
  · rw [if_pos q, if_pos q, h1]
    cases down with
    | true => rfl
    | false =>
      rw [h3 rfl]
      congr 1
      by_cases z : left = 0
      · rw [z, decide_eq_true rfl, decide_eq_true rfl]
      · rw [decide_eq_false z, decide_eq_false (fun e => z (by injection e))]
  · rw [if_neg q, if_neg q, h1]
theorem Rd.deed (h : Rd st left down) (hk : kd = 0 ∨ kd = 1 ∨ kd = 2) : Rd (st.deed kd c z) (leN kd left) (dnN kd left down) := by
  have hf := h.fails (kd := kd)
  obtain ⟨h1, h2, h3⟩ := h
  have l0 : 0 ≤ leN kd left := by
    unfold leN
    split
    · split <;> omega
    · exact h2
  by_cases q : kd < 2
  · have e : st.fails kd = st.dead := by unfold DS.fails; rw [if_pos q]
    rw [e] at hf
    have en : dnN kd left down = (down || decide (left = 0)) := by unfold dnN; rw [if_pos q]
    have el : leN kd left = (if left - 1 > 0 then left - 1 else 0) := by unfold leN; rw [if_pos q]
    have key : ∀ s : DS, s.dn = dnN kd left down → (dnN kd left down = false → s.left = st.left.map (· - 1)) → Rd s (leN kd left) (dnN kd left down) := fun s a b => ⟨a, l0, fun z => by
      rw [b z]
      rw [en] at z
      obtain ⟨z1, z2⟩ := Bool.or_eq_false_iff.mp z
      rw [h3 z1, el]
      have : left ≠ 0 := of_decide_eq_false z2
      show some (left - 1) = _
      split
      · rfl
      · congr 1; omega⟩
    unfold DS.deed
    cases hd : st.dead with
    | true =>
      rw [hd] at hf
      have := key { st with dn := true } hf (fun z => by rw [← hf] at z; cases z)
      rcases (show kd = 0 ∨ kd = 1 by omega) with r | r
      · rw [if_pos r, if_pos rfl]; exact this
      · rw [if_neg (by omega), if_pos r, if_pos rfl]; exact this
    | false =>
      rw [hd] at hf
      have dn0 : st.dn = false := (Bool.or_eq_false_iff.mp hd).1
      rcases (show kd = 0 ∨ kd = 1 by omega) with r | r
      · rw [if_pos r, if_neg (fun z => nomatch z)]
        exact key _ (by rw [← hf]; exact dn0) (fun _ => rfl)
      · rw [if_neg (by omega), if_pos r, if_neg (fun z => nomatch z)]
        exact key _ (by rw [← hf]; exact dn0) (fun _ => rfl)
  · have en : dnN kd left down = down := by unfold dnN; rw [if_neg q]
    have el : leN kd left = left := by unfold leN; rw [if_neg q]
    rw [en, el]
    unfold DS.deed
    rw [if_neg (by omega), if_neg (by omega)]
    by_cases hd : st.dn = true
    · rw [if_pos hd]; exact ⟨h1, h2, h3⟩
    · rw [if_neg hd]; exact ⟨h1, h2, h3⟩
theorem deed_write (h : st.fails 0 = false) : st.deed 0 c z = { st.step with wa := st.wa ++ [(c, z)], sh := putK st.sh (.inl c) (.str z), cw := st.cw ++ [c] } := by
  have h : st.dead = false := h
  unfold DS.deed
  rw [if_pos rfl, h, if_neg (fun q => nomatch q)]
theorem deed_sync (h : st.fails 1 = false) : st.deed 1 c z = { st.step with du := syncK st.du st.wa, wa := [] } := by
  have h : st.dead = false := h
  unfold DS.deed
  rw [if_neg (by decide), if_pos rfl, h, if_neg (fun q => nomatch q)]
theorem deed_else (hk : kd = 0 ∨ kd = 1 ∨ kd = 2) (h : st.fails kd = true ∨ kd = 2) : (st.deed kd c z).du = st.du ∧ (st.deed kd c z).wa = st.wa ∧ (st.deed kd c z).cw = st.cw := by
  have two : (st.deed 2 c z).du = st.du ∧ (st.deed 2 c z).wa = st.wa ∧ (st.deed 2 c z).cw = st.cw := by
    unfold DS.deed
    rw [if_neg (by decide), if_neg (by decide)]
    cases st.dn with
    | true => exact ⟨rfl, rfl, rfl⟩
    | false => exact ⟨rfl, rfl, rfl⟩
  rcases h with h | rfl
  · rcases hk with rfl | rfl | rfl
    · have h : st.dead = true := h
      unfold DS.deed
      rw [if_pos rfl, if_pos h]
      exact ⟨rfl, rfl, rfl⟩
    · have h : st.dead = true := h
      unfold DS.deed
      rw [if_neg (by decide), if_pos rfl, if_pos h]
      exact ⟨rfl, rfl, rfl⟩
    · exact two
  · exact two
end
theorem perm3 {α : Type} {a b c : α} : [a, b, c].Perm [c, a, b] := by
  show ([a, b] ++ [c]).Perm ([c] ++ [a, b])
  exact List.perm_append_comm
theorem perm4 {α : Type} {a b c : α} : [a, b, c].Perm [c, a, b] := perm3
theorem sub4 {α : Type} {a b c d : α} : [a, b, c].Sublist [a, b, c, d] := List.sublist_append_left [a, b, c] [d]
theorem sub3 {α : Type} {a b c : α} : [b, c].Sublist [a, b, c] := List.sublist_append_right [a] [b, c]
theorem sub2 {α : Type} {a b c : α} : [a, b].Sublist [a, b, c] := List.sublist_append_left [a, b] [c]
theorem x_cutI {ts tu : TS} {n b c : L2.St → Hp → Prop} {r : VK} {σ : L2.St} {H : Hp} (h : ts ⟨fun σ' H' => tu ⟨n, r, b, c⟩ σ' H', r, b, c⟩ σ H) : tCut ts tu ⟨n, r, b, c⟩ σ H := ⟨_, h, fun _ _ z => z⟩
theorem x_seqK {ts tu : TS} {n b c : L2.St → Hp → Prop} {r : VK} {σ : L2.St} {H : Hp} (Mid : L2.St → Hp → Prop) (h : ∀ N : L2.St → Hp → Prop, (∀ σ' H', Mid σ' H' → N σ' H') → ts ⟨N, r, b, c⟩ σ H) (k : ∀ σ' H', Mid σ' H' → tu ⟨n, r, b, c⟩ σ' H') : tSeq ts tu ⟨n, r, b, c⟩ σ H := h _ k
theorem two_at {r : Int} (h0 : 0 ≤ r) (h1 : r < 10) {j : Int} (j0 : 0 ≤ j) (j1 : j < 5) : ∃ c, atI [V.int r, V.int 1000000] (j / 4) = some (.int c) ∧ 0 ≤ c ∧ c ≤ 1000000 := by
  have : j / 4 = 0 ∨ j / 4 = 1 := by omega
  rcases this with e | e
  · rw [e]; exact ⟨_, rfl, h0, by omega⟩
  · rw [e]; exact ⟨_, rfl, by decide, by decide⟩
theorem seven_at {r : Int} (h0 : 0 ≤ r) (h1 : r < 7) {H : Hp} {ex : List Addr} {v0 v1 v2 v3 v4 v5 v6 : V} {d0 d1 d2 d3 d4 d5 d6 : Da} {G : Da → Prop} (p0 : Rp ex H v0 d0) (p1 : Rp ex H v1 d1) (p2 : Rp ex H v2 d2) (p3 : Rp ex H v3 d3) (p4 : Rp ex H v4 d4) (p5 : Rp ex H v5 d5) (p6 : Rp ex H v6 d6) (g0 : G d0) (g1 : G d1) (g2 : G d2) (g3 : G d3) (g4 : G d4) (g5 : G d5) (g6 : G d6) :
    ∃ v d, atI [v0, v1, v2, v3, v4, v5, v6] r = some v ∧ Rp ex H v d ∧ G d := by
  have : r = 0 ∨ r = 1 ∨ r = 2 ∨ r = 3 ∨ r = 4 ∨ r = 5 ∨ r = 6 := by omega
  rcases this with rfl | rfl | rfl | rfl | rfl | rfl | rfl
  · exact ⟨_, _, rfl, p0, g0⟩
  · exact ⟨_, _, rfl, p1, g1⟩
  · exact ⟨_, _, rfl, p2, g2⟩
  · exact ⟨_, _, rfl, p3, g3⟩
  · exact ⟨_, _, rfl, p4, g4⟩
  · exact ⟨_, _, rfl, p5, g5⟩
  · exact ⟨_, _, rfl, p6, g6⟩
theorem nofT {d : Da} (h : fatesB [d] = false) : NoFates (.tup [d]) := .inr ⟨[d], .inl rfl, Nat.le_of_ble_eq_true rfl, h⟩
theorem okT_up : okT "up" := fun c h => by
  have e : ("up" : Str).cps.toList = [117, 112] := by decide +kernel
  rw [e] at h
  simp only [List.mem_cons, List.not_mem_nil, or_false] at h
  rcases h with rfl | rfl <;> decide
def Wc (es : List (Int × Str)) : Prop := ∀ e, e ∈ es → 0 ≤ e.1 ∧ e.1 < 3
structure Iv (H : Hp) (C row sp p ce wl ml : Addr) (F : List Addr) (st : DS) (wr : List V) (left : Int) (down : Bool) (B T : Nat) : Prop where
  lw : Lw H C row sp p F st [(ml, .lst (st.cw.map V.int)), (wl, .lst wr), (ce, .lst (csV st.du))] wr st.wa
  pd : Pd st B T
  rd : Rd st left down
  wc : Wc st.wa
theorem Iv.take {H H' : Hp} {C row sp p ce wl ml : Addr} {F : List Addr} {st : DS} {wr : List V} {left : Int} {down : Bool} {B T : Nat} (I : Iv H C row sp p ce wl ml F st wr left down B T) (k : Kp [sp] H H') (W : Wd H' row sp) : Iv H' C row sp p ce wl ml F st wr left down B T := ⟨I.lw.take k W, I.pd, I.rd, I.wc⟩
theorem Iv.same {H H' : Hp} {C row sp p ce wl ml : Addr} {F : List Addr} {st : DS} {wr : List V} {left : Int} {down : Bool} {B T : Nat} (I : Iv H C row sp p ce wl ml F st wr left down B T) (s : Same H H') : Iv H' C row sp p ce wl ml F st wr left down B T := ⟨I.lw.same s, I.pd, I.rd, I.wc⟩
theorem Wc.deed {st : DS} {kd c : Int} {z : Str} (h : Wc st.wa) (c0 : 0 ≤ c) (c1 : c < 3) : Wc (st.deed kd c z).wa := by
  unfold DS.deed
  by_cases e0 : kd = 0
  · rw [if_pos e0]
    cases hd : st.dead with
    | true => exact h
    | false =>
      intro e m
      rcases List.mem_append.mp m with m | m
      · exact h e m
      · rw [List.mem_singleton.mp m]; exact ⟨c0, c1⟩
  rw [if_neg e0]
  by_cases e1 : kd = 1
  · rw [if_pos e1]
    cases hd : st.dead with
    | true => exact h
    | false => exact fun e m => (nomatch m)
  rw [if_neg e1]
  by_cases hd : st.dn = true
  · rw [if_pos hd]; exact h
  · rw [if_neg hd]; exact h
def sp_law (K : PySem.W.Frag) : Sp := fun vs H Q _ => ∃ (a : Addr) (ns : List Int), vs = [.ref a] ∧ SqL K H a (ns.map V.int) ∧ ns.length ≤ 63 ∧ ∀ H', Q (.bl true) H'
set_option maxHeartbeats 4000000 in
theorem ok_law {f : Addr} {fd : FuncData} (F : Fun K "law" "law" s_law f fd) (T : Txt K mg C_Crashed C_Disk tk_GREATEST_FATE tk_LAST_CELL tk_MOST_CHARACTERS tk_MOST_FATES tk_MOST_STEPS C_BadValue fI_BadValue) (O_Disk____init__ : OkI CX0 P w K mg base 1 C_Disk "Disk" ["self"] (sp_Disk____init__ C_Disk)) (O_Disk__forget : OkM CX0 P w K mg base 1 C_Disk "forget" ["self"] (sp_Disk__forget C_Disk)) (O_Disk__limit : OkM (L2.CX P w) P w K mg base 3 C_Disk "limit" ["self", "steps"] (sp_Disk__limit C_Disk C_BadValue)) (kb_Disk__limit_0_steps : OkMK (L2.CX P w) P w K mg base 3 C_Disk "limit" ["self", "steps"] (sp_Disk__limit C_Disk C_BadValue) ["steps"] [0]) (O_Disk__pending : OkM CX0 P w K mg base 1 C_Disk "pending" ["self"] (sp_Disk__pending C_Disk)) (O_Disk__read : OkM (L2.CX P w) P w K mg base 4 C_Disk "read" ["self", "cell"] (sp_Disk__read C_Disk C_Crashed C_BadValue)) (O_Disk__restart : OkM (L2.CX P w) P w K mg base 4 C_Disk "restart" ["self", "fates"] (sp_Disk__restart C_Disk C_BadValue)) (O_Disk__sync : OkM (L2.CX P w) P w K mg base 4 C_Disk "sync" ["self"] (sp_Disk__sync C_Disk C_Crashed)) (O_Disk__writes : OkM CX0 P w K mg base 1 C_Disk "writes" ["self"] (sp_Disk__writes C_Disk)) (O__law_done : Ok P w K mg base 5 "_law_done" ["disk", "kind", "cell", "text"] (sp__law_done C_Disk)) (O__law_fates : Ok P w K mg base 3 "_law_fates" ["row", "spot", "many"] (sp__law_fates)) (O__law_numbers : Ok P w K mg base 1 "_law_numbers" ["script"] (sp__law_numbers K)) (O__law_off_at : Ok P w K mg base 5 "_law_off_at" ["disk", "name", "value"] (sp__law_off_at C_Disk)) (O__law_so : Ok P w K mg base 4 "_law_so" ["found", "meant"] (sp__law_so 4)) (O__law_take : Ok P w K mg base 2 "_law_take" ["row", "spot", "limit"] (sp__law_take)) (O__law_text : Ok P w K mg base 3 "_law_text" ["row", "spot", "many"] (sp__law_text)) : FnOk P w K mg base CX0 6 f fd ["script"] (sp_law K) := by
  refine F.ok sc_law (fun vs H Q E h => ?_) (fun cdv A outer s H vs Q E hr h => ?_)
  · obtain ⟨a, ns, rfl, _⟩ := h
    rfl
  · obtain ⟨a, ns, rfl, ha, hl, k⟩ := h
    refine ⟨_, d_law hr T O_Disk____init__ O_Disk__forget O_Disk__limit kb_Disk__limit_0_steps O_Disk__pending O_Disk__read O_Disk__restart O_Disk__sync O_Disk__writes O__law_done O__law_fates O__law_numbers O__law_off_at O__law_so O__law_take O__law_text, ?_⟩
    unfold t_law
    refine x_start (σ' := [some (.ref a), none, none, none, none, none, none, none, none, none, none, none, none, none, none, none, none, none, none]) rfl ?_
    walk_at "sts"
    refine x_numbers ha hl fun row H1 rs s1 _ hrow hne hle => ?_
    walk_at "sts"
    refine x_mkl (m := 1) rfl (by decide) fun sp hs => ?_
    have W0 := wd_start hrow hs hne hle
    walk_at "sts"
    refine x_mk fun p dx hp hdx npx => ?_
    refine ⟨p, dx, rfl, upd_same, fun H3 F3 k3 D3 sub3 => ⟨rfl, ?_⟩⟩
    have s3 := same_make (H2 := H3) hp hdx npx k3
    have W3 := W0.same s3
    have L3 : Lw H3 C_Disk row sp p F3 DS.new [] [] [] := by
      obtain ⟨⟨s, rs', _, b1, b2, _⟩, nrs⟩ := id W3
      refine ⟨W3, D3, fun e m => (nomatch m), fun e m => (nomatch m), ?_, Prs.nil⟩
      rw [List.nodup_append]
      refine ⟨by simp [List.nodup_cons, Ne.symm nrs], D3.nd, ?_⟩
      intro x hx y hy e
      subst e
      have old : ∀ (b : Addr) (u : HO), upd H1 sp (.lst [.int 0]) b = some u → b ∉ F3 := fun b u eb m => by
        rcases sub3 b m with z | z
        · rw [z, hp] at eb; cases eb
        · have n1 : b ≠ p := new_ne' hp eb
          have n2 : b ≠ dx := new_ne' hdx eb
          rw [upd_ne n1, upd_ne n2, eb] at z
          cases z
      simp only [List.map_nil, List.mem_cons, List.not_mem_nil, or_false] at hx
      rcases hx with rfl | rfl
      · exact old _ _ upd_same hy
      · exact old _ _ (upd_get hs hrow) hy
    walk_at "sts"
    refine x_mklN (m := 3) rfl (by decide) fun ce H4 s4 z4 e4 => ?_
    have L4 := L3.new s4 z4 e4 (fun _ q => nomatch q)
    walk_at "sts"
    refine x_mklN rfl (by decide) fun wl H5 s5 z5 e5 => ?_
    have L5 := L4.new s5 z5 e5 (fun _ q => nomatch q)
    walk_at "sts"
    refine x_rng 2 (by decide) rfl ?_
    refine x_loopR (fun i σ H' => ∃ (F : List Addr) (st : DS) (wl : Addr) (B : Nat) (x6 x7 x8 x9 x10 x11 x12 x13 x14 x15 x16 x17 x18 : Option V), σ = [some (.ref a), some (.ref row), some (.ref sp), some (.ref p), some (.ref ce), some (.ref wl), x6, x7, x8, x9, x10, x11, x12, x13, x14, x15, x16, x17, x18] ∧ Lw H' C_Disk row sp p F st [(wl, .lst []), (ce, .lst (csV st.du))] [] [] ∧ Pd st B (30 * i) ∧ st.wa = [] ∧ st.dn = false) ?_ ?_ ?_
    · exact ⟨F3, DS.new, wl, 0, _, _, _, _, _, _, _, _, _, _, _, _, _, rfl, L5, ⟨(fun k v e => nomatch e), fun e m => (nomatch m), Nat.le_refl _, Nat.le_refl _, Nat.le_refl _, Nat.le_refl _, Nat.le_refl _⟩, rfl, rfl⟩
    · clear L5 L4 L3 e5 z5 s5 e4 z4 s4 W3 s3 D3 k3 sub3 W0 hs hp hdx npx
      rintro i σ H' hi ⟨F0, st0, wl0, B0, x6, x7, x8, x9, x10, x11, x12, x13, x14, x15, x16, x17, x18, rfl, L0, P0, w0, d0⟩
      walk_at "sts"
      refine x_take L0.wd (by decide) fun r1 G1 a1 b1 k1 W1 => ?_
      have L1 := L0.take k1 W1
      walk_at "sts"
      refine x_mklN (m := 2) rfl (by decide) fun q1 G2 t2 z2 y2 => ?_
      have L2 := L1.same t2
      walk_at "sts"
      refine x_take L2.wd (by decide) fun r3 G3 a3 b3 k3 W3 => ?_
      have L3 := L2.take k3 W3
      walk_at "sts"
      refine x_fdv (by decide) ?_
      walk_at "sts"
      obtain ⟨lf, hlf, l0, l1⟩ := two_at a1 b1 a3 b3
      refine x_ixL (k3 _ _ (not1 (L1.wd.sp_ne z2)) y2) hlf ?_
      walk_at "sts"
      refine x_cut (fun σ' H'' => ∃ st : DS, σ' = [some (.ref a), some (.ref row), some (.ref sp), some (.ref p), some (.ref ce), some (.ref wl0), some (.int (i : Int)), some (.int lf), x8, x9, x10, x11, x12, x13, x14, x15, x16, x17, x18] ∧ Lw H'' C_Disk row sp p F0 st [(wl0, .lst []), (ce, .lst (csV st.du))] [] [] ∧ Pd st B0 (30 * i) ∧ st.wa = [] ∧ st.dn = false) ?_ ?_
      · walk_at "sts"
        refine x_take L3.wd (by decide) fun r4 G4 a4 b4 k4 W4 => ?_
        have L4 := L3.take k4 W4
        walk_at "sts"
        refine x_dec (fun g => ?_) (fun g => ?_)
        · walk_at "sts"
          obtain ⟨dx', b1', b2', b3', b4', b5', hp'⟩ := L4.dk.ins
          refine x_m rfl hp' rfl ?_
          walk_at "sts"
          refine x_take L4.wd (by decide) fun r5 G5 a5 b5 k5 W5 => ?_
          have L5 := L4.take k5 W5
          walk_at "sts"
          refine ⟨[], F0, p, st0, .int r5, .int r5, rfl, L5.dk, .int r5, fun q => (inD_cell a5 (by omega) q).elim, fun _ => ⟨r5, rfl, fun H6 f6 D6 => ?_⟩⟩
          walk_at "sts"
          exact ⟨{ st0 with left := some r5 }, rfl, L5.deed f6 D6, P0.keep rfl rfl rfl rfl rfl, w0, d0⟩
        · walk_at "sts"
          exact ⟨st0, rfl, L4, P0, w0, d0⟩
      · rintro σ' H'' ⟨st1, rfl, L4, P4, w4, d4⟩
        clear L0 L1 L2 L3 k1 W1 k3 W3 t2 z2 y2 P0 w0 d0 hlf
        walk_at "sts"
        obtain ⟨dx', b1', b2', b3', b4', b5', hp'⟩ := L4.dk.ins
        refine x_mK rfl hp' rfl ?_
        walk_at "sts"
        refine ⟨rfl, [], F0, p, st1, .int lf, .int lf, rfl, L4.dk, .int lf, fun q => (inD_cell l0 l1 q).elim, fun _ => ⟨lf, rfl, fun H6 f6 D6 => ?_⟩⟩
        have L6 := L4.deed f6 D6
        have P6 : Pd { st1 with left := some lf } B0 (30 * i) := P4.keep rfl rfl rfl rfl rfl
        have R6 : Rd { st1 with left := some lf } lf false := ⟨d4, l0, fun _ => rfl⟩
        have w6 : ({ st1 with left := some lf } : DS).wa = [] := w4
        have c6 : csV st1.du = csV ({ st1 with left := some lf } : DS).du := rfl
        rw [c6] at L6
        generalize ({ st1 with left := some lf } : DS) = st2 at L6 P6 R6 w6
        clear hp' L4 P4 w4 d4 c6 D6 f6
        walk_at "sts"
        refine x_mklN (m := 5) rfl (by decide) fun q2 G7 t7 z7 y7 => ?_
        have L7 := L6.same t7
        walk_at "sts"
        refine x_take L7.wd (by decide) fun r8 G8 a8 b8 k8 W8 => ?_
        have L8 := L7.take k8 W8
        obtain ⟨vb, bd, hvb, rb, nb⟩ := five_at (G := fun d => inD 0 1000000 d = false) a8 b8 (Rp.int (ex := [sp]) (H := G8) (-1)) (Rp.int 1000001) Rp.non (Rp.str "1") (Rp.bl true) (by decide) (by decide) rfl rfl rfl
        walk_at "sts"
        refine x_ixL (k8 _ _ (not1 (L6.wd.sp_ne z7)) y7) hvb ?_
        walk_at "sts"
        refine x_mkT (ex := [sp]) (ds := [.int (-1)]) (by walk_at "rps") L8.wd.live (by walk_at "len") fun u1 G9 t9 g1 => ?_
        have L9 := L8.same t9
        walk_at "sts"
        refine x_mkT (ex := [sp]) (ds := [.int 10001]) (by walk_at "rps") L9.wd.live (by walk_at "len") fun u2 G10 t10 g2 => ?_
        have L10 := L9.same t10
        walk_at "sts"
        refine x_mkT (ex := [sp]) (ds := [.str "0"]) (by walk_at "rps") L10.wd.live (by walk_at "len") fun u3 G11 t11 g3 => ?_
        have L11 := L10.same t11
        walk_at "sts"
        refine x_mkT (ex := [sp]) (ds := [.bl true]) (by walk_at "rps") L11.wd.live (by walk_at "len") fun u4 G12 t12 g4 => ?_
        have L12 := L11.same t12
        walk_at "sts"
        refine x_mkL (ex := [sp]) (ds := [.int 0, .non]) (by walk_at "rps") L12.wd.live (by walk_at "len") fun u5 G13 t13 g5 => ?_
        have L13 := L12.same t13
        walk_at "sts"
        refine x_mklN (m := 7) rfl (by decide) fun q3 G14 t14 z14 y14 => ?_
        have L14 := L13.same t14
        walk_at "sts"
        refine x_take L14.wd (by decide) fun r9 G15 a15 b15 k15 W15 => ?_
        have L15 := L14.take k15 W15
        obtain ⟨vf, fd', hvf, rf, nf⟩ := seven_at (G := NoFates) a15 b15 (Rp.non (ex := [sp]) (H := G15)) (Rp.int 3) ((((((g1.same t10).same t11).same t12).same t13).same t14).kp k15) (((((g2.same t11).same t12).same t13).same t14).kp k15) ((((g3.same t12).same t13).same t14).kp k15) (((g4.same t13).same t14).kp k15) ((g5.same t14).kp k15) (.inl rfl) (.inl rfl) (nofT rfl) (nofT rfl) (nofT rfl) (nofT rfl) (.inr ⟨_, .inr rfl, Nat.le_of_ble_eq_true rfl, rfl⟩)
        have rb15 := ((((((((rb.same t9).same t10).same t11).same t12).same t13).same t14).kp k15))
        walk_at "sts"
        refine x_ixL (k15 _ _ (not1 (L13.wd.sp_ne z14)) y14) hvf ?_
        clear L6 L7 L8 L9 L10 L11 L12 L13 L14 g1 g2 g3 g4 g5 t9 t10 t11 t12 t13 t14 z14 y14 rb k8 W8 k15 W15 hvf hvb z7 y7 t7
        walk_at "sts"
        refine ⟨[sp], F0, p, st2, 0, vb, bd, rfl, L15.dk, rb15, L15.wd.live, .inl ⟨rfl, nb, fun G16 t16 => ?_⟩⟩
        have L16 := L15.same t16
        walk_at "sts"
        refine x_so (sp := []) (.int 0) (.int 0) (.int 0) ?_
        walk_at "sts"
        refine ⟨[sp], F0, p, st2, 1, vf, fd', rfl, L16.dk, rf.same t16, L16.wd.live, .inr (.inl ⟨rfl, nf, fun G17 t17 => ?_⟩)⟩
        have L17 := L16.same t17
        walk_at "sts"
        refine x_so (sp := []) (.int 0) (.int 0) (.int 0) ?_
        walk_at "sts"
        obtain ⟨dx', b1', b2', b3', b4', b5', hp'⟩ := L17.dk.ins
        refine x_m rfl hp' rfl ?_
        walk_at "sts"
        refine ⟨F0, p, st2, rfl, L17.dk, fun G18 F18 f18 D18 => ?_⟩
        have L18 := L17.deed f18 D18
        walk_at "sts"
        refine x_mklN rfl (by decide) fun ml G19 t19 z19 y19 => ?_
        have L19 := L18.new t19 z19 y19 (fun _ q => nomatch q)
        have I19 : Iv G19 C_Disk row sp p ce wl0 ml F18 { st2 with cr := [], cw := [] } [] lf false B0 (30 * i) := by
          refine ⟨L19.prs ?_, ⟨P6.s1, P6.wm, P6.l1, P6.l2, P6.l4, Nat.zero_le _, Nat.zero_le _⟩, R6, ?_⟩
          · show Prs G19 [] st2.wa
            rw [w6]; exact Prs.nil
          · show Wc st2.wa
            rw [w6]; exact fun e m => (nomatch m)
        generalize ({ st2 with cr := [], cw := [] } : DS) = st3 at I19
        clear L15 L16 L17 L18 L19 t16 t17 t19 z19 y19 f18 D18 hp' P6 R6 w6 rf rb15 nf nb
        walk_at "sts"
        refine x_rng 14 (by decide) rfl ?_
        refine x_loopR (fun j σ H' => ∃ (F : List Addr) (st : DS) (wl : Addr) (wr : List V) (lf : Int) (dw : Bool) (B : Nat) (x12 x13 x14 x15 x16 x17 : Option V), σ = [some (.ref a), some (.ref row), some (.ref sp), some (.ref p), some (.ref ce), some (.ref wl), some (.int (i : Int)), some (.int lf), some vb, some vf, some (.bl dw), some (.ref ml), x12, x13, x14, x15, x16, x17, x18] ∧ Iv H' C_Disk row sp p ce wl ml F st wr lf dw B (30 * i + j)) ?_ ?_ ?_
        · exact ⟨F18, st3, wl0, [], lf, false, B0, _, _, _, _, _, _, rfl, I19⟩
        · clear I19
          rintro j σ H' hj ⟨F, st, wl, wr, lf, dw, B, x12, x13, x14, x15, x16, x17, rfl, I⟩
          have T60 : 30 * i + j ≤ 60 := by omega
          walk_at "sts"
          refine x_take I.lw.wd (by decide) fun kd G1 a1 b1 k1 W1 => ?_
          have I1 := I.take k1 W1
          have hk : kd = 0 ∨ kd = 1 ∨ kd = 2 := by omega
          walk_at "sts"
          refine x_cut (fun σ' H'' => ∃ st : DS, σ' = [some (.ref a), some (.ref row), some (.ref sp), some (.ref p), some (.ref ce), some (.ref wl), some (.int (i : Int)), some (.int lf), some vb, some vf, some (.bl dw), some (.ref ml), some (.int (j : Int)), some (.int kd), x14, x15, x16, x17, x18] ∧ Iv H'' C_Disk row sp p ce wl ml F st wr lf dw B (30 * i + j)) ?_ ?_
          · walk_at "sts"
            cases dw with
            | false =>
              walk_at "sts"
              exact ⟨st, rfl, I1⟩
            | true =>
              walk_at "sts"
              refine x_take I1.lw.wd (by decide) fun r2 G2 a2 b2 k2 W2 => ?_
              have I2 := I1.take k2 W2
              walk_at "sts"
              refine x_dec (fun g => ?_) (fun g => ?_)
              · walk_at "sts"
                obtain ⟨dx', b1', b2', b3', b4', b5', hp'⟩ := I2.lw.dk.ins
                refine x_m rfl hp' rfl ?_
                walk_at "sts"
                refine x_take I2.lw.wd (by decide) fun r3 G3 a3 b3 k3 W3 => ?_
                have I3 := I2.take k3 W3
                walk_at "sts"
                refine ⟨[], F, p, st, .int r3, .int r3, rfl, I3.lw.dk, .int r3, fun q => (inD_cell a3 (by omega) q).elim, fun _ => ⟨r3, rfl, fun H6 f6 D6 => ?_⟩⟩
                walk_at "sts"
                exact ⟨{ st with left := some r3 }, rfl, I3.lw.deed f6 D6, I3.pd.keep rfl rfl rfl rfl rfl, ⟨I3.rd.1, I3.rd.2.1, fun q => nomatch q⟩, I3.wc⟩
              · walk_at "sts"
                exact ⟨st, rfl, I2⟩
          · clear I1 k1 W1 I
            rintro σ' H1 ⟨st, rfl, I⟩
            walk_at "sts"
            refine x_take I.lw.wd (by decide) fun y G2 a2 b2 k2 W2 => ?_
            have I2 := I.take k2 W2
            have hy : y = 0 ∨ y = 1 ∨ y = 2 := by omega
            refine x_gName ?_
            refine x_seqK (fun σ' H'' => σ' = [some (.ref a), some (.ref row), some (.ref sp), some (.ref p), some (.ref ce), some (.ref wl), some (.int (i : Int)), some (.int lf), some vb, some vf, some (.bl dw), some (.ref ml), some (.int (j : Int)), some (.int kd), some (.int y), x15, x16, x17, x18] ∧ Iv H'' C_Disk row sp p ce wl ml F st wr lf dw B (30 * i + j)) (fun N hN => ?_) (fun σ' H3 m => ?_)
            · walk_at "sts"
              refine x_take I2.lw.wd (by decide) fun r3 G3 a3 b3 k3 W3 => ?_
              have I3 := I2.take k3 W3
              walk_at "sts"
              refine x_dec (fun g => ?_) (fun g => ?_)
              · walk_at "sts"
                refine ⟨[], F, p, st, 2, .int y, .int y, rfl, I3.lw.dk, .int y, (fun _ z => nomatch z), .inr (.inr ⟨rfl, y, rfl, hy, fun G4 t4 => ?_⟩)⟩
                have I4 := I3.same t4
                walk_at "sts"
                refine x_dec (fun g2 => ?_) (fun g2 => ?_)
                · rw [if_pos g2]
                  walk_at "sts"
                  refine x_so (sp := []) (.int 1) (.int 1) (.int 1) ?_
                  walk_at "sts"
                  exact hN _ _ ⟨rfl, I4⟩
                · rw [if_neg g2]
                  walk_at "sts"
                  refine x_so (sp := []) (.int 0) (.int 0) (.int 0) ?_
                  walk_at "sts"
                  exact hN _ _ ⟨rfl, I4⟩
              · walk_at "sts"
                exact hN _ _ ⟨rfl, I3⟩
            · obtain ⟨rfl, I3⟩ := m
              clear I I2 k2 W2
              walk_at "sts"
              refine x_take I3.lw.wd (by decide) fun c G4 c0 c1 k4 W4 => ?_
              have I4 := I3.take k4 W4
              walk_at "sts"
              refine x_take I4.lw.wd (by decide) fun r5 G5 a5 b5 k5 W5 => ?_
              have I5 := I4.take k5 W5
              walk_at "sts"
              refine x_text a5 (by omega) I5.lw.wd fun z G6 oz lz k6 W6 => ?_
              have I6 := I5.take k6 W6
              clear I3 I4 I5 k4 W4 k5 W5 k6 W6
              walk_at "sts"
              refine x_cut (fun σ' H'' => σ' = [some (.ref a), some (.ref row), some (.ref sp), some (.ref p), some (.ref ce), some (.ref wl), some (.int (i : Int)), some (.int (leN kd lf)), some vb, some vf, some (.bl (dnN kd lf dw)), some (.ref ml), some (.int (j : Int)), some (.int kd), some (.int y), some (.int c), some (.str z), x17, x18] ∧ G6 = H'') ?_ ?_
              · walk_at "sts"
                refine x_dec (fun g => ?_) (fun g => ?_)
                · walk_at "sts"
                  have el : leN kd lf = (if lf - 1 > 0 then lf - 1 else 0) := by unfold leN; rw [if_pos g]
                  have en : dnN kd lf dw = (dw || decide (lf = 0)) := by unfold dnN; rw [if_pos g]
                  rw [el, en]
                  cases dw with
                  | true =>
                    walk_at "sts"
                    exact ⟨rfl, rfl⟩
                  | false =>
                    walk_at "sts"
                    exact ⟨rfl, rfl⟩
                · walk_at "sts"
                  have el : leN kd lf = lf := by unfold leN; rw [if_neg g]
                  have en : dnN kd lf dw = dw := by unfold dnN; rw [if_neg g]
                  rw [el, en]
                  exact ⟨rfl, rfl⟩
              · rintro σ' H'' ⟨rfl, rfl⟩
                have hf := I6.rd.fails (kd := kd)
                have RD := I6.rd.deed (c := c) (z := z) hk
                have WD := I6.wc.deed (kd := kd) (z := z) c0 c1
                obtain ⟨BD, PD⟩ := I6.pd.deed (kd := kd) (c := c) (z := z) (by omega)
                generalize dnN kd lf dw = dw' at hf RD ⊢
                generalize leN kd lf = lf' at RD ⊢
                walk_at "sts"
                refine ⟨F, p, st, kd, c, z, rfl, I6.lw.dk, hk, c0, by omega, by omega, oz, by have := I6.pd.l2; omega, by have := I6.pd.l4; omega, by have := I6.pd.l5; omega, by have := I6.pd.l6; omega, by have := I6.pd.l2; omega, fun H9 F9 f9 D9 => ?_⟩
                have L9 := I6.lw.deed f9 D9
                rw [hf]
                walk_at "sts"
                refine x_so (sp := []) (.bl _) (.bl _) (.bl _) ?_
                walk_at "sts"
                refine x_cut (fun σ' H'' => ∃ (wr' : List V) (es' : List (Int × Str)), σ' = [some (.ref a), some (.ref row), some (.ref sp), some (.ref p), some (.ref ce), some (.ref wl), some (.int (i : Int)), some (.int lf'), some vb, some vf, some (.bl dw'), some (.ref ml), some (.int (j : Int)), some (.int kd), some (.int y), some (.int c), some (.str z), x17, x18] ∧ Lw H'' C_Disk row sp p F9 (st.deed kd c z) [(ml, .lst ((st.deed kd c z).cw.map V.int)), (wl, .lst wr'), (ce, .lst (csV st.du))] wr' es' ∧ es' = (if dw' = false ∧ kd = 0 then (st.deed kd c z).wa else st.wa)) ?_ ?_
                · walk_at "sts"
                  by_cases hA : dw' = false ∧ kd = 0
                  · obtain ⟨rfl, rfl⟩ := hA
                    have eD : st.deed 0 c z = { st.step with wa := st.wa ++ [(c, z)], sh := putK st.sh (.inl c) (.str z), cw := st.cw ++ [c] } := deed_write hf
                    walk_at "sts"
                    refine x_dec (fun _ => ?_) (fun q => absurd rfl q)
                    walk_at "sts"
                    have ew := L9.hx (wl, _) (List.mem_cons_of_mem _ List.mem_cons_self)
                    refine x_bmL ew ?_
                    walk_at "sts"
                    refine x_mkTN (Nat.le_of_ble_eq_true rfl) fun ta G10 t10 z10 y10 => ?_
                    walk_at "sts"
                    have L10 := (L9.same t10).prs ((L9.pw.kp (ex := []) (Same.kp t10) (fun _ z => nomatch z)).snoc (e := (c, z)) y10)
                    have ew10 := L10.hx (wl, _) (List.mem_cons_of_mem _ List.mem_cons_self)
                    have lw : wr.length = st.wa.length := I6.lw.pw.1
                    refine x_app ew10 (szl (by have := I6.pd.l2; omega)) ?_
                    walk_at "sts"
                    have L11 := ((L10.perm (List.Perm.swap _ _ _)).put (kp_upd (H := G10) (a := wl) (o := .lst (wr ++ [.ref ta])) List.mem_cons_self) upd_same (fun _ q => nomatch q)).perm (List.Perm.swap _ _ _)
                    generalize upd G10 wl (.lst (wr ++ [.ref ta])) = G11 at L11 ⊢
                    have em := L11.hx (ml, _) List.mem_cons_self
                    refine x_bmL em ?_
                    walk_at "sts"
                    refine x_app em (szm (by have := I6.pd.l5; omega)) ?_
                    walk_at "sts"
                    have L12 := L11.put (kp_upd (H := G11) (a := ml) (o := .lst (st.cw.map V.int ++ [.int c])) List.mem_cons_self) upd_same (fun _ q => nomatch q)
                    refine ⟨wr ++ [.ref ta], st.wa ++ [(c, z)], rfl, ?_, ?_⟩
                    · have ecw : (st.deed 0 c z).cw.map V.int = st.cw.map V.int ++ [.int c] := by rw [eD]; exact (map_snoc _ _).symm
                      rw [ecw]
                      exact L12
                    · rw [if_pos ⟨rfl, rfl⟩, eD]
                  · have ecw : (st.deed kd c z).cw = st.cw := by
                      by_cases q : st.fails kd = true ∨ kd = 2
                      · exact (deed_else hk q).2.2
                      · have q1 : st.fails kd = false := by cases e : st.fails kd <;> simp_all
                        have q2 : kd = 1 := by
                          rcases hk with r | r | r
                          · exact absurd ⟨by rw [← hf]; exact q1, r⟩ hA
                          · exact r
                          · exact absurd (.inr r) q
                        subst q2
                        rw [deed_sync q1]
                        rfl
                    have fin : ∃ (wr' : List V) (es' : List (Int × Str)), Lw H9 C_Disk row sp p F9 (st.deed kd c z) [(ml, .lst ((st.deed kd c z).cw.map V.int)), (wl, .lst wr'), (ce, .lst (csV st.du))] wr' es' ∧ es' = (if dw' = false ∧ kd = 0 then (st.deed kd c z).wa else st.wa) := ⟨wr, st.wa, by rw [ecw]; exact L9, by rw [if_neg hA]⟩
                    obtain ⟨wr', es', L', e'⟩ := fin
                    cases dw' with
                    | true =>
                      walk_at "sts"
                      exact ⟨wr', es', rfl, L', e'⟩
                    | false =>
                      walk_at "sts"
                      refine x_dec (fun q => absurd ⟨rfl, q⟩ hA) (fun _ => ?_)
                      walk_at "sts"
                      exact ⟨wr', es', rfl, L', e'⟩
                · clear L9 D9 f9
                  rintro σ' H10 ⟨wr', es', rfl, L10, he⟩
                  walk_at "sts"
                  obtain ⟨dx', b1', b2', b3', b4', b5', hp'⟩ := L10.dk.ins
                  refine x_m rfl hp' rfl ?_
                  walk_at "sts"
                  refine ⟨F9, p, _, rfl, L10.dk, fun v1 G11 t11 q11 => ?_⟩
                  have L11 := L10.same t11
                  walk_at "sts"
                  refine x_tupL (SqL.of (L11.hx (ml, _) List.mem_cons_self)) fun l hl => ?_
                  have t12 := Same.new (o := .tup ((st.deed kd c z).cw.map V.int)) (Same.refl G11) hl
                  have L12 := L11.same t12
                  have ly : (st.deed kd c z).cw.length ≤ 1000 := by have := PD.l5; omega
                  walk_at "sts"
                  refine x_so (sp := []) (q11.same t12) (rps_tup (rps_ints0 _) (fun z => nomatch z) upd_same) (dn_intsT ly) ?_
                  generalize upd G11 l (.tup ((st.deed kd c z).cw.map V.int)) = G12 at L12 ⊢
                  clear L10 L11 t11 t12 q11 hl hp'
                  walk_at "sts"
                  refine x_cut (fun σ' H'' => ∃ (wl : Addr) (wr' : List V) (x17 : Option V), σ' = [some (.ref a), some (.ref row), some (.ref sp), some (.ref p), some (.ref ce), some (.ref wl), some (.int (i : Int)), some (.int lf'), some vb, some vf, some (.bl dw'), some (.ref ml), some (.int (j : Int)), some (.int kd), some (.int y), some (.int c), some (.str z), x17, x18] ∧ Iv H'' C_Disk row sp p ce wl ml F9 (st.deed kd c z) wr' lf' dw' BD (30 * i + j + 1)) ?_ ?_
                  · walk_at "sts"
                    by_cases hB : dw' = false ∧ kd = 1
                    · obtain ⟨rfl, rfl⟩ := hB
                      have eD : st.deed 1 c z = { st.step with du := syncK st.du st.wa, wa := [] } := deed_sync hf
                      rw [if_neg (fun q => absurd q.2 (by decide))] at he
                      subst he
                      walk_at "sts"
                      refine x_dec (fun _ => ?_) (fun q => absurd rfl q)
                      walk_at "sts"
                      refine x_loopL (SqL.of (L12.hx (wl, _) (List.mem_cons_of_mem _ List.mem_cons_self))) (fun m σ H' => ∃ x17 : Option V, σ = [some (.ref a), some (.ref row), some (.ref sp), some (.ref p), some (.ref ce), some (.ref wl), some (.int (i : Int)), some (.int lf'), some vb, some vf, some (.bl false), some (.ref ml), some (.int (j : Int)), some (.int 1), some (.int y), some (.int c), some (.str z), x17, x18] ∧ Lw H' C_Disk row sp p F9 (st.deed 1 c z) [(ce, .lst (csV (syncK st.du (st.wa.take m)))), (ml, .lst ((st.deed 1 c z).cw.map V.int)), (wl, .lst wr')] wr' st.wa) ?_ ?_ ?_ ?_
                      · exact ⟨_, rfl, L12.perm perm3⟩
                      · rintro m σ H' _ ⟨x17, rfl, LL⟩
                        exact SqL.of (LL.hx (wl, _) (List.mem_cons_of_mem _ (List.mem_cons_of_mem _ List.mem_cons_self)))
                      · rintro m x σ H' gx ⟨x17, rfl, LL⟩
                        obtain ⟨en, ta', ge, rfl, et⟩ := LL.pw.at gx
                        have hc := I6.wc en (List.mem_of_getElem? ge)
                        obtain ⟨mm, hm1, hm2⟩ := cs_set (kv := syncK st.du (st.wa.take m)) (z := en.2) hc.1 hc.2
                        walk_at "sts"
                        refine x_ixT et (v := .str en.2) rfl ?_
                        walk_at "sts"
                        refine x_ixT et (v := .int en.1) rfl ?_
                        refine x_setL (LL.hx (ce, _) List.mem_cons_self) hm1 ?_
                        walk_at "sts"
                        refine ⟨_, rfl, ?_⟩
                        rw [hm2, syncK_take ge]
                        exact LL.put (kp_upd List.mem_cons_self) upd_same (fun _ q => nomatch q)
                      · rintro σ H14 ⟨x17, rfl, LL⟩
                        rw [show wr'.length = st.wa.length from LL.pw.1, List.take_length] at LL
                        walk_at "sts"
                        refine x_mklN rfl (by decide) fun wl2 G15 t15 z15 y15 => ?_
                        have L15 := LL.new t15 z15 y15 (fun _ q => nomatch q)
                        walk_at "sts"
                        refine ⟨wl2, [], _, rfl, ⟨?_, PD, RD, WD⟩⟩
                        have ew : (st.deed 1 c z).wa = [] := by rw [eD]
                        have ed : (st.deed 1 c z).du = syncK st.du st.wa := by rw [eD]
                        rw [ew, ed]
                        exact ((L15.sub (X' := [(wl2, .lst []), (ce, .lst (csV (syncK st.du st.wa))), (ml, .lst ((st.deed 1 c z).cw.map V.int))]) sub4).perm perm4).prs Prs.nil
                    · have eo : es' = (st.deed kd c z).wa ∧ csV st.du = csV (st.deed kd c z).du := by
                        by_cases hA : dw' = false ∧ kd = 0
                        · rw [if_pos hA] at he
                          obtain ⟨rfl, rfl⟩ := hA
                          refine ⟨he, ?_⟩
                          rw [deed_write hf]
                          rfl
                        · rw [if_neg hA] at he
                          have q : st.fails kd = true ∨ kd = 2 := by
                            rcases hk with r | r | r
                            · left; rw [hf]; cases dw' with
                              | true => rfl
                              | false => exact absurd ⟨rfl, r⟩ hA
                            · left; rw [hf]; cases dw' with
                              | true => rfl
                              | false => exact absurd ⟨rfl, r⟩ hB
                            · exact .inr r
                          obtain ⟨e1, e2, _⟩ := deed_else (st := st) (c := c) (z := z) hk q
                          rw [e1, e2]
                          exact ⟨he, rfl⟩
                      obtain ⟨e1, e2⟩ := eo
                      rw [e1, e2] at L12
                      have fin : Iv G12 C_Disk row sp p ce wl ml F9 (st.deed kd c z) wr' lf' dw' BD (30 * i + j + 1) := ⟨L12, PD, RD, WD⟩
                      cases dw' with
                      | true =>
                        walk_at "sts"
                        exact ⟨wl, wr', _, rfl, fin⟩
                      | false =>
                        walk_at "sts"
                        refine x_dec (fun q => absurd ⟨rfl, q⟩ hB) (fun _ => ?_)
                        walk_at "sts"
                        exact ⟨wl, wr', _, rfl, fin⟩
                  · clear L12
                    rintro σ' H13 ⟨wl', wr2, x17', rfl, J⟩
                    walk_at "sts"
                    obtain ⟨dx', b1', b2', b3', b4', b5', hp'⟩ := J.lw.dk.ins
                    refine x_m rfl hp' rfl ?_
                    walk_at "sts"
                    refine ⟨F9, p, _, rfl, J.lw.dk, ?_⟩
                    walk_at "sts"
                    refine x_lenL (J.lw.hx (wl', _) (List.mem_cons_of_mem _ List.mem_cons_self)) ?_
                    rw [J.lw.pw.1]
                    walk_at "sts"
                    refine x_so (sp := []) (.int _) (.int _) (.int _) ?_
                    walk_at "sts"
                    exact ⟨F9, st.deed kd c z, wl', wr2, lf', dw', BD, _, _, _, _, _, _, rfl, J⟩
        · rintro σ H' ⟨F, st, wl, wr, lf, dw, B, x12, x13, x14, x15, x16, x17, rfl, I⟩
          have T60 : 30 * i + 14 ≤ 44 := by omega
          walk_at "sts"
          refine x_take I.lw.wd (by decide) fun r1 G1 a1 b1 k1 W1 => ?_
          have I1 := I.take k1 W1
          walk_at "sts"
          refine x_fates a1 (by omega) I1.lw.wd fun vf' G2 fs k2 W2 rf lf' bf => ?_
          have I2 := I1.take k2 W2
          have PD := I2.pd
          have lwa : st.wa.length ≤ 44 := by have := PD.l2; omega
          walk_at "sts"
          obtain ⟨dx', b1', b2', b3', b4', b5', hp'⟩ := I2.lw.dk.ins
          refine x_m rfl hp' rfl ?_
          walk_at "sts"
          refine ⟨[sp], F, p, st, vf', intsT fs, rfl, I2.lw.dk, rf, W2.live, .inr (.inr ⟨fs, B, 30, .inl rfl, by omega, fates_ok bf, PD.s1, PD.wm, by have := PD.l1; omega, by decide, by have := PD.l2; omega, fun H9 F9 f9 D9 => ?_⟩)⟩
          have P9 := PD.rest fs
          have L9 := ((I2.lw.deed f9 D9).sub (X' := [(wl, .lst wr), (ce, .lst (csV st.du))]) sub3).perm (List.Perm.swap _ _ _)
          have dnf : Dn 3 (intsT fs) := .tup (by rw [List.length_map]; omega) fun d hd => by
            obtain ⟨x, _, rfl⟩ := List.mem_map.mp hd
            exact .int x
          obtain ⟨af, ys, rfl, _, ef, rr⟩ := (rf.ntk f9.kp I2.lw.dk.nt dnf).tupI
          have ey := rps_xs rr
          subst ey
          have lw : wr.length = st.wa.length := L9.pw.1
          walk_at "sts"
          refine x_lenL (L9.hx (wl, _) (List.mem_cons_of_mem _ List.mem_cons_self)) ?_
          walk_at "sts"
          refine x_rng st.wa.length (by omega) (by rw [lw]) ?_
          have lz : (st.wa.zip (padF fs st.wa.length)).length = st.wa.length := by rw [List.length_zip, padF_len]; omega
          have wcs := I2.wc
          clear I I1 I2 k1 W1 k2 W2 rf hp' D9 f9 rr
          refine x_loopR (fun m σ H' => ∃ x12 x18 : Option V, σ = [some (.ref a), some (.ref row), some (.ref sp), some (.ref p), some (.ref ce), some (.ref wl), some (.int (i : Int)), some (.int lf), some vb, some (.ref af), some (.bl dw), some (.ref ml), x12, x13, x14, x15, x16, x17, x18] ∧ Lw H' C_Disk row sp p F9 { st with du := restK st.du (st.wa.zip fs), sh := restK st.du (st.wa.zip fs), wa := [], left := none, dn := false } [(ce, .lst (csV (restK st.du ((st.wa.zip (padF fs st.wa.length)).take m)))), (wl, .lst wr)] wr st.wa ∧ H' af = some (.tup (fs.map V.int))) ?_ ?_ ?_
          · exact ⟨_, _, rfl, L9, ef⟩
          · rintro m σ H' hm ⟨x12, x18, rfl, L, eaf⟩
            have gx : wr[m]? = some (wr[m]'(by omega)) := List.getElem?_eq_getElem _
            generalize wr[m]'(by omega) = x at gx
            obtain ⟨en, ta', ge, rfl, et⟩ := L.pw.at gx
            have hc := wcs en (List.mem_of_getElem? ge)
            have gz : (st.wa.zip (padF fs st.wa.length))[m]? = some (en, fs.getD m 0) := zip_at ge (padF_at fs _ m hm)
            have hSi := SK.rest (M := 30) ((st.wa.zip (padF fs st.wa.length)).take m) PD.s1 (fun e' q => PD.wm _ (List.of_mem_zip (List.mem_of_mem_take q)).1)
            have li : B + 30 * ((st.wa.zip (padF fs st.wa.length)).take m).length ≤ 30 * 44 := by
              have : ((st.wa.zip (padF fs st.wa.length)).take m).length ≤ st.wa.length := by rw [List.length_take]; omega
              have := PD.l1
              omega
            have hold := hSi.old en.1
            have zl : en.2.length ≤ 30 := PD.wm en (List.mem_of_getElem? ge)
            have atw : atI wr (m : Int) = some (.ref ta') := atI_nat gx
            have ew := L.hx (wl, _) (List.mem_cons_of_mem _ List.mem_cons_self)
            have ec := L.hx (ce, _) List.mem_cons_self
            walk_at "sts"
            refine x_cut (fun σ' H'' => σ' = [some (.ref a), some (.ref row), some (.ref sp), some (.ref p), some (.ref ce), some (.ref wl), some (.int (i : Int)), some (.int lf), some vb, some (.ref af), some (.bl dw), some (.ref ml), some (.int (m : Int)), x13, x14, x15, x16, x17, some (.int (fs.getD m 0))] ∧ H' = H'') ?_ ?_
            · walk_at "sts"
              refine x_lenT eaf ?_
              walk_at "sts"
              rw [List.length_map]
              refine x_dec (fun g => ?_) (fun g => ?_)
              · walk_at "sts"
                have hm2 : m < fs.length := by omega
                refine x_ixT eaf (v := .int (fs.getD m 0)) (atI_nat (by rw [List.getElem?_map, List.getElem?_eq_getElem hm2, List.getD_eq_getElem?_getD, List.getElem?_eq_getElem hm2]; rfl)) ?_
                walk_at "sts"
                exact ⟨rfl, rfl⟩
              · walk_at "sts"
                have : fs.getD m 0 = 0 := by rw [List.getD_eq_getElem?_getD, List.getElem?_eq_none (by omega)]; rfl
                rw [this]
                exact ⟨rfl, rfl⟩
            · rintro σ' H'' ⟨rfl, rfl⟩
              obtain ⟨mm, hm1, hm2⟩ := cs_set (kv := restK st.du ((st.wa.zip (padF fs st.wa.length)).take m)) (z := cutAt en.2 (oldS (restK st.du ((st.wa.zip (padF fs st.wa.length)).take m)) en.1) (fs.getD m 0)) hc.1 hc.2
              walk_at "sts"
              refine x_ixL ew atw ?_
              walk_at "sts"
              refine x_ixT et (v := .str en.2) rfl ?_
              walk_at "sts"
              refine x_slS (by omega) ?_
              walk_at "sts"
              refine x_ixL ew atw ?_
              walk_at "sts"
              refine x_ixT et (v := .int en.1) rfl ?_
              refine x_ixL ec (cs_at hc.1 hc.2) ?_
              walk_at "sts"
              refine x_slS (by omega) ?_
              refine x_addS (by have := cutS_length en.2 none (some (fs.getD m 0)); have := cutS_length (oldS (restK st.du ((st.wa.zip (padF fs st.wa.length)).take m)) en.1) (some (fs.getD m 0)) none; omega) ?_
              walk_at "sts"
              refine x_ixL ew atw ?_
              walk_at "sts"
              refine x_ixT et (v := .int en.1) rfl ?_
              refine x_setL ec hm1 ?_
              walk_at "sts"
              refine ⟨_, _, rfl, ?_, upd_get' (fun q => by rw [q, ec] at eaf; cases eaf) eaf⟩
              rw [restK_take gz]
              show Lw (upd H' ce (.lst ((csV (restK st.du ((st.wa.zip (padF fs st.wa.length)).take m))).set mm (.str (cutAt en.2 (oldS (restK st.du ((st.wa.zip (padF fs st.wa.length)).take m)) en.1) (fs.getD m 0)))))) _ _ _ _ _ _ _ _ _
              rw [hm2]
              exact L.put (kp_upd List.mem_cons_self) upd_same (fun _ q => nomatch q)
          · rintro σ H10 ⟨x12, x18, rfl, L, _⟩
            rw [List.take_of_length_le (by rw [lz]; exact Nat.le_refl _), ← cs_rel (Rel.rest st.wa fs (fun _ => rfl))] at L
            have e1 : csV (restK st.du (st.wa.zip fs)) = csV ({ st with du := restK st.du (st.wa.zip fs), sh := restK st.du (st.wa.zip fs), wa := [], left := none, dn := false } : DS).du := rfl
            rw [e1] at L
            have hs : ({ st with du := restK st.du (st.wa.zip fs), sh := restK st.du (st.wa.zip fs), wa := [], left := none, dn := false } : DS).sh = syncK ({ st with du := restK st.du (st.wa.zip fs), sh := restK st.du (st.wa.zip fs), wa := [], left := none, dn := false } : DS).du ({ st with du := restK st.du (st.wa.zip fs), sh := restK st.du (st.wa.zip fs), wa := [], left := none, dn := false } : DS).wa := rfl
            have hn : ({ st with du := restK st.du (st.wa.zip fs), sh := restK st.du (st.wa.zip fs), wa := [], left := none, dn := false } : DS).left = none ∧ ({ st with du := restK st.du (st.wa.zip fs), sh := restK st.du (st.wa.zip fs), wa := [], left := none, dn := false } : DS).dn = false ∧ ({ st with du := restK st.du (st.wa.zip fs), sh := restK st.du (st.wa.zip fs), wa := [], left := none, dn := false } : DS).wa = [] := ⟨rfl, rfl, rfl⟩
            generalize ({ st with du := restK st.du (st.wa.zip fs), sh := restK st.du (st.wa.zip fs), wa := [], left := none, dn := false } : DS) = s9 at L hs hn P9
            obtain ⟨hn1, hn2, hn3⟩ := hn
            generalize B + 30 * st.wa.length = B9 at P9
            clear e1 L9 ef PD wcs lz lw dnf bf lf' a1 b1 lwa
            walk_at "sts"
            refine x_mklN rfl (by decide) fun wl2 G11 t11 z11 y11 => ?_
            have L11 := ((L.new t11 z11 y11 (fun _ q => nomatch q)).sub (X' := [(wl2, .lst []), (ce, .lst (csV s9.du))]) sub2).prs Prs.nil
            clear L t11 z11 y11
            walk_at "sts"
            refine x_rng 12 (by decide) rfl ?_
            refine x_loopR (fun m σ H' => ∃ (F : List Addr) (s : DS) (x12 : Option V), σ = [some (.ref a), some (.ref row), some (.ref sp), some (.ref p), some (.ref ce), some (.ref wl2), some (.int (i : Int)), some (.int lf), some vb, some (.ref af), some (.bl dw), some (.ref ml), x12, x13, x14, x15, x16, x17, x18] ∧ Lw H' C_Disk row sp p F s [(wl2, .lst []), (ce, .lst (csV s.du))] [] [] ∧ Pd s B9 (30 * i + 14 + m) ∧ s.left = none ∧ s.dn = false ∧ (∀ e, e ∈ s.wa → 3 ≤ e.1) ∧ s.sh = syncK s.du s.wa) ?_ ?_ ?_
            · exact ⟨F9, s9, _, rfl, L11, P9, hn1, hn2, by rw [hn3]; exact fun e q => (nomatch q), hs⟩
            · clear L11 P9 hn1 hn2 hn3 hs
              rintro m σ H' hm ⟨F', s, x12, rfl, L, P, g1, g2, g3, g4⟩
              have hd : s.fails 0 = false := by
                show s.dead = false
                unfold DS.dead
                rw [g1, g2]
                rfl
              have T58 : 30 * i + 14 + m ≤ 60 := by omega
              have ll : ("up" : Str).length = 2 := by decide +kernel
              walk_at "sts"
              refine ⟨F', p, s, 0, 3 + (m : Int), "up", rfl, L.dk, .inl rfl, by omega, by omega, by omega, okT_up, by have := P.l2; omega, by have := P.l4; omega, by have := P.l5; omega, by have := P.l6; omega, by have := P.l2; omega, fun H9 F9' f9 D9 => ?_⟩
              rw [deed_write hd] at D9
              rw [hd]
              walk_at "sts"
              refine ⟨F9', { s.step with wa := s.wa ++ [(3 + (m : Int), ("up" : Str))], sh := putK s.sh (.inl (3 + (m : Int))) (.str "up"), cw := s.cw ++ [3 + (m : Int)] }, _, rfl, L.deed f9 D9, P.write (z := "up") (by omega), ?_, g2, ?_, ?_⟩
              · show s.left.map (· - 1) = none
                rw [g1]; rfl
              · intro e q
                rcases List.mem_append.mp q with q | q
                · exact g3 e q
                · rw [List.mem_singleton.mp q]
                  show (3 : Int) ≤ 3 + m
                  omega
              · show putK s.sh (.inl (3 + (m : Int))) (.str "up") = syncK s.du (s.wa ++ [(3 + (m : Int), ("up" : Str))])
                rw [sync_snoc, g4]
            · clear L11 P9 hn1 hn2 hn3 hs
              rintro σ H11 ⟨F', s, x12, rfl, L, P, g1, g2, g3, g4⟩
              have hd : s.dead = false := by
                unfold DS.dead
                rw [g1, g2]
                rfl
              walk_at "sts"
              obtain ⟨dx', b1', b2', b3', b4', b5', hp'⟩ := L.dk.ins
              refine x_m rfl hp' rfl ?_
              walk_at "sts"
              refine ⟨F', p, s, rfl, L.dk, (fun q => by rw [hd] at q; cases q), fun _ => ⟨by have := P.l2; omega, fun H12 F12 f12 D12 => ?_⟩⟩
              have L12 := L.deed f12 D12
              have P12 := P.sync
              rw [← cs_farL s.wa g3] at L12
              have q1 : syncK s.du s.wa = ({ s.step with du := syncK s.du s.wa, wa := [] } : DS).du := rfl
              rw [q1] at L12
              have q2 : ({ s.step with du := syncK s.du s.wa, wa := [] } : DS).sh = ({ s.step with du := syncK s.du s.wa, wa := [] } : DS).du ∧ ({ s.step with du := syncK s.du s.wa, wa := [] } : DS).wa = [] ∧ ({ s.step with du := syncK s.du s.wa, wa := [] } : DS).dn = false := ⟨g4, rfl, g2⟩
              generalize ({ s.step with du := syncK s.du s.wa, wa := [] } : DS) = s12 at L12 P12 q2
              generalize B9 + 30 * s.wa.length = B12 at P12
              clear q1 D12 f12 L P g1 g2 g3 g4 hd hp'
              walk_at "sts"
              refine x_rng 3 (by decide) rfl ?_
              refine x_loopR (fun m σ H' => ∃ (s : DS) (x15 : Option V), σ = [some (.ref a), some (.ref row), some (.ref sp), some (.ref p), some (.ref ce), some (.ref wl2), some (.int (i : Int)), some (.int lf), some vb, some (.ref af), some (.bl dw), some (.ref ml), x12, x13, x14, x15, x16, x17, x18] ∧ Lw H' C_Disk row sp p F12 s [(wl2, .lst []), (ce, .lst (csV s.du))] [] [] ∧ Pd s B12 (30 * i + 26 + m) ∧ s.sh = s.du ∧ s.wa = [] ∧ s.dn = false) ?_ ?_ ?_
              · exact ⟨s12, _, rfl, L12, P12, q2⟩
              · clear L12 P12 q2
                rintro m σ H' hm ⟨s, x15, rfl, L, P, e1, e2, e3⟩
                walk_at "sts"
                obtain ⟨dx', b1', b2', b3', b4', b5', hp'⟩ := L.dk.ins
                refine x_m rfl hp' rfl ?_
                walk_at "sts"
                refine ⟨[], F12, p, s, .int m, .int m, rfl, L.dk, .int m, fun q => (inD_cell (by omega) (by omega) q).elim, fun _ => ⟨m, rfl, (fun q => by rw [e3] at q; cases q), fun _ => ⟨by have := P.l6; omega, fun H9 f9 D9 => ?_⟩⟩⟩
                rw [e1, (P.s1.old m).1]
                have L9 := L.deed f9 D9
                walk_at "sts"
                refine x_ixL (L9.hx (ce, _) (List.mem_cons_of_mem _ List.mem_cons_self)) (cs_at (by omega) (by omega)) ?_
                walk_at "sts"
                refine x_so (sp := []) (.str _) (.str _) (.str _) ?_
                walk_at "sts"
                exact ⟨{ s with cr := s.cr ++ [(m : Int)] }, _, rfl, L9, P.read, e1, e2, e3⟩
              · clear L12 P12 q2
                rintro σ H' ⟨s, x15, rfl, L, P, e1, e2, e3⟩
                walk_at "sts"
                exact ⟨F12, s, wl2, B12, _, _, _, _, _, _, _, _, _, _, _, _, _, rfl, L, P.mono (by omega), e2, e3⟩
    · rintro σ H' ⟨F, st, wl, B, x6, x7, x8, x9, x10, x11, x12, x13, x14, x15, x16, x17, x18, rfl, _⟩
      walk_at "sts"
      exact k _
end
set_option maxHeartbeats 4000000 in
theorem all_mk {l : PySem.W.OpenLaw} {w : World} {K : PySem.W.Frag} {h : Heap} {mg : Str → Option Value} {fa : Addr} (X : K.In h) (G : h.Ns mainGlobals mg) (hfa : mg "law" = some (.ref fa))
    {f__wall : Addr} {od__wall an__wall : Option Addr} {sl__wall : Array (Option Value)} {oc__wall kV__wall dc__wall pm__wall cd__wall ct__wall : Value}
    {f_is_integer : Addr} {od_is_integer an_is_integer : Option Addr} {sl_is_integer : Array (Option Value)} {oc_is_integer kV_is_integer dc_is_integer pm_is_integer cd_is_integer ct_is_integer : Value}
    {f_is_sequence : Addr} {od_is_sequence an_is_sequence : Option Addr} {sl_is_sequence : Array (Option Value)} {oc_is_sequence kV_is_sequence dc_is_sequence pm_is_sequence cd_is_sequence ct_is_sequence : Value}
    {f_is_within : Addr} {od_is_within an_is_within : Option Addr} {sl_is_within : Array (Option Value)} {oc_is_within kV_is_within dc_is_within pm_is_within cd_is_within ct_is_within : Value}
    {f_is_cell : Addr} {od_is_cell an_is_cell : Option Addr} {sl_is_cell : Array (Option Value)} {oc_is_cell kV_is_cell dc_is_cell pm_is_cell cd_is_cell ct_is_cell : Value}
    {f_is_cell_text : Addr} {od_is_cell_text an_is_cell_text : Option Addr} {sl_is_cell_text : Array (Option Value)} {oc_is_cell_text kV_is_cell_text dc_is_cell_text pm_is_cell_text cd_is_cell_text ct_is_cell_text : Value}
    {f_are_fates : Addr} {od_are_fates an_are_fates : Option Addr} {sl_are_fates : Array (Option Value)} {oc_are_fates kV_are_fates dc_are_fates pm_are_fates cd_are_fates ct_are_fates : Value}
    {f_Disk____init__ : Addr} {od_Disk____init__ an_Disk____init__ : Option Addr} {sl_Disk____init__ : Array (Option Value)} {oc_Disk____init__ kV_Disk____init__ dc_Disk____init__ pm_Disk____init__ cd_Disk____init__ ct_Disk____init__ : Value}
    {f_Disk__write : Addr} {od_Disk__write an_Disk__write : Option Addr} {sl_Disk__write : Array (Option Value)} {oc_Disk__write kV_Disk__write dc_Disk__write pm_Disk__write cd_Disk__write ct_Disk__write : Value}
    {f_Disk__read : Addr} {od_Disk__read an_Disk__read : Option Addr} {sl_Disk__read : Array (Option Value)} {oc_Disk__read kV_Disk__read dc_Disk__read pm_Disk__read cd_Disk__read ct_Disk__read : Value}
    {f_Disk__sync : Addr} {od_Disk__sync an_Disk__sync : Option Addr} {sl_Disk__sync : Array (Option Value)} {oc_Disk__sync kV_Disk__sync dc_Disk__sync pm_Disk__sync cd_Disk__sync ct_Disk__sync : Value}
    {f_Disk__pending : Addr} {od_Disk__pending an_Disk__pending : Option Addr} {sl_Disk__pending : Array (Option Value)} {oc_Disk__pending kV_Disk__pending dc_Disk__pending pm_Disk__pending cd_Disk__pending ct_Disk__pending : Value}
    {f_Disk__limit : Addr} {od_Disk__limit an_Disk__limit : Option Addr} {sl_Disk__limit : Array (Option Value)} {oc_Disk__limit kV_Disk__limit dc_Disk__limit pm_Disk__limit cd_Disk__limit ct_Disk__limit : Value}
    {f_Disk__restart : Addr} {od_Disk__restart an_Disk__restart : Option Addr} {sl_Disk__restart : Array (Option Value)} {oc_Disk__restart kV_Disk__restart dc_Disk__restart pm_Disk__restart cd_Disk__restart ct_Disk__restart : Value}
    {f_Disk__reads : Addr} {od_Disk__reads an_Disk__reads : Option Addr} {sl_Disk__reads : Array (Option Value)} {oc_Disk__reads kV_Disk__reads dc_Disk__reads pm_Disk__reads cd_Disk__reads ct_Disk__reads : Value}
    {f_Disk__writes : Addr} {od_Disk__writes an_Disk__writes : Option Addr} {sl_Disk__writes : Array (Option Value)} {oc_Disk__writes kV_Disk__writes dc_Disk__writes pm_Disk__writes cd_Disk__writes ct_Disk__writes : Value}
    {f_Disk__forget : Addr} {od_Disk__forget an_Disk__forget : Option Addr} {sl_Disk__forget : Array (Option Value)} {oc_Disk__forget kV_Disk__forget dc_Disk__forget pm_Disk__forget cd_Disk__forget ct_Disk__forget : Value}
    {f_Disk___step : Addr} {od_Disk___step an_Disk___step : Option Addr} {sl_Disk___step : Array (Option Value)} {oc_Disk___step kV_Disk___step dc_Disk___step pm_Disk___step cd_Disk___step ct_Disk___step : Value}
    {f__law_so : Addr} {od__law_so an__law_so : Option Addr} {sl__law_so : Array (Option Value)} {oc__law_so kV__law_so dc__law_so pm__law_so cd__law_so ct__law_so : Value}
    {f__law_numbers : Addr} {od__law_numbers an__law_numbers : Option Addr} {sl__law_numbers : Array (Option Value)} {oc__law_numbers kV__law_numbers dc__law_numbers pm__law_numbers cd__law_numbers ct__law_numbers : Value}
    {f__law_draw : Addr} {od__law_draw an__law_draw : Option Addr} {sl__law_draw : Array (Option Value)} {oc__law_draw kV__law_draw dc__law_draw pm__law_draw cd__law_draw ct__law_draw : Value}
    {f__law_take : Addr} {od__law_take an__law_take : Option Addr} {sl__law_take : Array (Option Value)} {oc__law_take kV__law_take dc__law_take pm__law_take cd__law_take ct__law_take : Value}
    {f__law_text : Addr} {od__law_text an__law_text : Option Addr} {sl__law_text : Array (Option Value)} {oc__law_text kV__law_text dc__law_text pm__law_text cd__law_text ct__law_text : Value}
    {f__law_fates : Addr} {od__law_fates an__law_fates : Option Addr} {sl__law_fates : Array (Option Value)} {oc__law_fates kV__law_fates dc__law_fates pm__law_fates cd__law_fates ct__law_fates : Value}
    {f__law_done : Addr} {od__law_done an__law_done : Option Addr} {sl__law_done : Array (Option Value)} {oc__law_done kV__law_done dc__law_done pm__law_done cd__law_done ct__law_done : Value}
    {f__law_off_at : Addr} {od__law_off_at an__law_off_at : Option Addr} {sl__law_off_at : Array (Option Value)} {oc__law_off_at kV__law_off_at dc__law_off_at pm__law_off_at cd__law_off_at ct__law_off_at : Value}
    {f_law : Addr} {od_law an_law : Option Addr} {sl_law : Array (Option Value)} {oc_law kV_law dc_law pm_law cd_law ct_law : Value}
    {tk_GREATEST_FATE : Tok}
    {tk_LAST_CELL : Tok}
    {tk_MOST_CHARACTERS : Tok}
    {tk_MOST_FATES : Tok}
    {tk_MOST_STEPS : Tok}
    {C_BadValue fI_BadValue N_BadValue S_BadValue : Addr} {od_eBadValue an_eBadValue dd_BadValue : Option Addr} {sl_eBadValue : Array (Option Value)} {oc_eBadValue dc_eBadValue pm_eBadValue cd_eBadValue ct_eBadValue : Value} {nm_BadValue q_BadValue : Str} {bs_BadValue sub_BadValue : List Value} {sn_BadValue : List Str} {ab_BadValue : Bool} {col_BadValue : Option Bool} {m0_BadValue m1_BadValue m2_BadValue m3_BadValue m5_BadValue : Option Value} {p1_BadValue p2_BadValue q1_BadValue q2_BadValue q3_BadValue q4_BadValue : Pos}
    {C_Crashed : Addr}
    {C_Disk : Addr}
    (a__wall : PySem.W.nsIn K mainGlobals "_wall" = some (some (.ref f__wall))) (l__wall : K.lookup f__wall = some ⟨oc__wall, od__wall, .func (PySem.W.fnOf "_wall" "_wall" (defArgs s__wall) (defBody s__wall) (defScope s__wall) .none kV__wall dc__wall pm__wall an__wall cd__wall ct__wall), sl__wall⟩) (c__wall : PySem.W.codeIn K cd__wall "_wall" = true) (k__wall : PySem.W.keepIn K (.ref f__wall) = true)
    (a_is_integer : PySem.W.nsIn K mainGlobals "is_integer" = some (some (.ref f_is_integer))) (l_is_integer : K.lookup f_is_integer = some ⟨oc_is_integer, od_is_integer, .func (PySem.W.fnOf "is_integer" "is_integer" (defArgs s_is_integer) (defBody s_is_integer) (defScope s_is_integer) .none kV_is_integer dc_is_integer pm_is_integer an_is_integer cd_is_integer ct_is_integer), sl_is_integer⟩) (c_is_integer : PySem.W.codeIn K cd_is_integer "is_integer" = true) (k_is_integer : PySem.W.keepIn K (.ref f_is_integer) = true)
    (a_is_sequence : PySem.W.nsIn K mainGlobals "is_sequence" = some (some (.ref f_is_sequence))) (l_is_sequence : K.lookup f_is_sequence = some ⟨oc_is_sequence, od_is_sequence, .func (PySem.W.fnOf "is_sequence" "is_sequence" (defArgs s_is_sequence) (defBody s_is_sequence) (defScope s_is_sequence) .none kV_is_sequence dc_is_sequence pm_is_sequence an_is_sequence cd_is_sequence ct_is_sequence), sl_is_sequence⟩) (c_is_sequence : PySem.W.codeIn K cd_is_sequence "is_sequence" = true) (k_is_sequence : PySem.W.keepIn K (.ref f_is_sequence) = true)
    (a_is_within : PySem.W.nsIn K mainGlobals "is_within" = some (some (.ref f_is_within))) (l_is_within : K.lookup f_is_within = some ⟨oc_is_within, od_is_within, .func (PySem.W.fnOf "is_within" "is_within" (defArgs s_is_within) (defBody s_is_within) (defScope s_is_within) .none kV_is_within dc_is_within pm_is_within an_is_within cd_is_within ct_is_within), sl_is_within⟩) (c_is_within : PySem.W.codeIn K cd_is_within "is_within" = true) (k_is_within : PySem.W.keepIn K (.ref f_is_within) = true)
    (a_is_cell : PySem.W.nsIn K mainGlobals "is_cell" = some (some (.ref f_is_cell))) (l_is_cell : K.lookup f_is_cell = some ⟨oc_is_cell, od_is_cell, .func (PySem.W.fnOf "is_cell" "is_cell" (defArgs s_is_cell) (defBody s_is_cell) (defScope s_is_cell) .none kV_is_cell dc_is_cell pm_is_cell an_is_cell cd_is_cell ct_is_cell), sl_is_cell⟩) (c_is_cell : PySem.W.codeIn K cd_is_cell "is_cell" = true) (k_is_cell : PySem.W.keepIn K (.ref f_is_cell) = true)
    (a_is_cell_text : PySem.W.nsIn K mainGlobals "is_cell_text" = some (some (.ref f_is_cell_text))) (l_is_cell_text : K.lookup f_is_cell_text = some ⟨oc_is_cell_text, od_is_cell_text, .func (PySem.W.fnOf "is_cell_text" "is_cell_text" (defArgs s_is_cell_text) (defBody s_is_cell_text) (defScope s_is_cell_text) .none kV_is_cell_text dc_is_cell_text pm_is_cell_text an_is_cell_text cd_is_cell_text ct_is_cell_text), sl_is_cell_text⟩) (c_is_cell_text : PySem.W.codeIn K cd_is_cell_text "is_cell_text" = true) (k_is_cell_text : PySem.W.keepIn K (.ref f_is_cell_text) = true)
    (a_are_fates : PySem.W.nsIn K mainGlobals "are_fates" = some (some (.ref f_are_fates))) (l_are_fates : K.lookup f_are_fates = some ⟨oc_are_fates, od_are_fates, .func (PySem.W.fnOf "are_fates" "are_fates" (defArgs s_are_fates) (defBody s_are_fates) (defScope s_are_fates) .none kV_are_fates dc_are_fates pm_are_fates an_are_fates cd_are_fates ct_are_fates), sl_are_fates⟩) (c_are_fates : PySem.W.codeIn K cd_are_fates "are_fates" = true) (k_are_fates : PySem.W.keepIn K (.ref f_are_fates) = true)
    (ma_Disk____init__ : PySem.W.findIn K (.ref C_Disk) "__init__" = some (some (.ref f_Disk____init__))) (mf_Disk____init__ : PySem.W.isFn K (.ref f_Disk____init__) = true) (l_Disk____init__ : K.lookup f_Disk____init__ = some ⟨oc_Disk____init__, od_Disk____init__, .func (PySem.W.fnOf "__init__" "Disk.__init__" (defArgs s_Disk____init__) (defBody s_Disk____init__) (defScope s_Disk____init__) .none kV_Disk____init__ dc_Disk____init__ pm_Disk____init__ an_Disk____init__ cd_Disk____init__ ct_Disk____init__), sl_Disk____init__⟩) (c_Disk____init__ : PySem.W.codeIn K cd_Disk____init__ "Disk.__init__" = true) (k_Disk____init__ : PySem.W.keepIn K (.ref f_Disk____init__) = true)
    (ma_Disk__write : PySem.W.findIn K (.ref C_Disk) "write" = some (some (.ref f_Disk__write))) (mf_Disk__write : PySem.W.isFn K (.ref f_Disk__write) = true) (l_Disk__write : K.lookup f_Disk__write = some ⟨oc_Disk__write, od_Disk__write, .func (PySem.W.fnOf "write" "Disk.write" (defArgs s_Disk__write) (defBody s_Disk__write) (defScope s_Disk__write) .none kV_Disk__write dc_Disk__write pm_Disk__write an_Disk__write cd_Disk__write ct_Disk__write), sl_Disk__write⟩) (c_Disk__write : PySem.W.codeIn K cd_Disk__write "Disk.write" = true) (k_Disk__write : PySem.W.keepIn K (.ref f_Disk__write) = true)
    (ma_Disk__read : PySem.W.findIn K (.ref C_Disk) "read" = some (some (.ref f_Disk__read))) (mf_Disk__read : PySem.W.isFn K (.ref f_Disk__read) = true) (l_Disk__read : K.lookup f_Disk__read = some ⟨oc_Disk__read, od_Disk__read, .func (PySem.W.fnOf "read" "Disk.read" (defArgs s_Disk__read) (defBody s_Disk__read) (defScope s_Disk__read) .none kV_Disk__read dc_Disk__read pm_Disk__read an_Disk__read cd_Disk__read ct_Disk__read), sl_Disk__read⟩) (c_Disk__read : PySem.W.codeIn K cd_Disk__read "Disk.read" = true) (k_Disk__read : PySem.W.keepIn K (.ref f_Disk__read) = true)
    (ma_Disk__sync : PySem.W.findIn K (.ref C_Disk) "sync" = some (some (.ref f_Disk__sync))) (mf_Disk__sync : PySem.W.isFn K (.ref f_Disk__sync) = true) (l_Disk__sync : K.lookup f_Disk__sync = some ⟨oc_Disk__sync, od_Disk__sync, .func (PySem.W.fnOf "sync" "Disk.sync" (defArgs s_Disk__sync) (defBody s_Disk__sync) (defScope s_Disk__sync) .none kV_Disk__sync dc_Disk__sync pm_Disk__sync an_Disk__sync cd_Disk__sync ct_Disk__sync), sl_Disk__sync⟩) (c_Disk__sync : PySem.W.codeIn K cd_Disk__sync "Disk.sync" = true) (k_Disk__sync : PySem.W.keepIn K (.ref f_Disk__sync) = true)
    (ma_Disk__pending : PySem.W.findIn K (.ref C_Disk) "pending" = some (some (.ref f_Disk__pending))) (mf_Disk__pending : PySem.W.isFn K (.ref f_Disk__pending) = true) (l_Disk__pending : K.lookup f_Disk__pending = some ⟨oc_Disk__pending, od_Disk__pending, .func (PySem.W.fnOf "pending" "Disk.pending" (defArgs s_Disk__pending) (defBody s_Disk__pending) (defScope s_Disk__pending) .none kV_Disk__pending dc_Disk__pending pm_Disk__pending an_Disk__pending cd_Disk__pending ct_Disk__pending), sl_Disk__pending⟩) (c_Disk__pending : PySem.W.codeIn K cd_Disk__pending "Disk.pending" = true) (k_Disk__pending : PySem.W.keepIn K (.ref f_Disk__pending) = true)
    (ma_Disk__limit : PySem.W.findIn K (.ref C_Disk) "limit" = some (some (.ref f_Disk__limit))) (mf_Disk__limit : PySem.W.isFn K (.ref f_Disk__limit) = true) (l_Disk__limit : K.lookup f_Disk__limit = some ⟨oc_Disk__limit, od_Disk__limit, .func (PySem.W.fnOf "limit" "Disk.limit" (defArgs s_Disk__limit) (defBody s_Disk__limit) (defScope s_Disk__limit) .none kV_Disk__limit dc_Disk__limit pm_Disk__limit an_Disk__limit cd_Disk__limit ct_Disk__limit), sl_Disk__limit⟩) (c_Disk__limit : PySem.W.codeIn K cd_Disk__limit "Disk.limit" = true) (k_Disk__limit : PySem.W.keepIn K (.ref f_Disk__limit) = true)
    (ma_Disk__restart : PySem.W.findIn K (.ref C_Disk) "restart" = some (some (.ref f_Disk__restart))) (mf_Disk__restart : PySem.W.isFn K (.ref f_Disk__restart) = true) (l_Disk__restart : K.lookup f_Disk__restart = some ⟨oc_Disk__restart, od_Disk__restart, .func (PySem.W.fnOf "restart" "Disk.restart" (defArgs s_Disk__restart) (defBody s_Disk__restart) (defScope s_Disk__restart) .none kV_Disk__restart dc_Disk__restart pm_Disk__restart an_Disk__restart cd_Disk__restart ct_Disk__restart), sl_Disk__restart⟩) (c_Disk__restart : PySem.W.codeIn K cd_Disk__restart "Disk.restart" = true) (k_Disk__restart : PySem.W.keepIn K (.ref f_Disk__restart) = true)
    (ma_Disk__reads : PySem.W.findIn K (.ref C_Disk) "reads" = some (some (.ref f_Disk__reads))) (mf_Disk__reads : PySem.W.isFn K (.ref f_Disk__reads) = true) (l_Disk__reads : K.lookup f_Disk__reads = some ⟨oc_Disk__reads, od_Disk__reads, .func (PySem.W.fnOf "reads" "Disk.reads" (defArgs s_Disk__reads) (defBody s_Disk__reads) (defScope s_Disk__reads) .none kV_Disk__reads dc_Disk__reads pm_Disk__reads an_Disk__reads cd_Disk__reads ct_Disk__reads), sl_Disk__reads⟩) (c_Disk__reads : PySem.W.codeIn K cd_Disk__reads "Disk.reads" = true) (k_Disk__reads : PySem.W.keepIn K (.ref f_Disk__reads) = true)
    (ma_Disk__writes : PySem.W.findIn K (.ref C_Disk) "writes" = some (some (.ref f_Disk__writes))) (mf_Disk__writes : PySem.W.isFn K (.ref f_Disk__writes) = true) (l_Disk__writes : K.lookup f_Disk__writes = some ⟨oc_Disk__writes, od_Disk__writes, .func (PySem.W.fnOf "writes" "Disk.writes" (defArgs s_Disk__writes) (defBody s_Disk__writes) (defScope s_Disk__writes) .none kV_Disk__writes dc_Disk__writes pm_Disk__writes an_Disk__writes cd_Disk__writes ct_Disk__writes), sl_Disk__writes⟩) (c_Disk__writes : PySem.W.codeIn K cd_Disk__writes "Disk.writes" = true) (k_Disk__writes : PySem.W.keepIn K (.ref f_Disk__writes) = true)
    (ma_Disk__forget : PySem.W.findIn K (.ref C_Disk) "forget" = some (some (.ref f_Disk__forget))) (mf_Disk__forget : PySem.W.isFn K (.ref f_Disk__forget) = true) (l_Disk__forget : K.lookup f_Disk__forget = some ⟨oc_Disk__forget, od_Disk__forget, .func (PySem.W.fnOf "forget" "Disk.forget" (defArgs s_Disk__forget) (defBody s_Disk__forget) (defScope s_Disk__forget) .none kV_Disk__forget dc_Disk__forget pm_Disk__forget an_Disk__forget cd_Disk__forget ct_Disk__forget), sl_Disk__forget⟩) (c_Disk__forget : PySem.W.codeIn K cd_Disk__forget "Disk.forget" = true) (k_Disk__forget : PySem.W.keepIn K (.ref f_Disk__forget) = true)
    (ma_Disk___step : PySem.W.findIn K (.ref C_Disk) "_step" = some (some (.ref f_Disk___step))) (mf_Disk___step : PySem.W.isFn K (.ref f_Disk___step) = true) (l_Disk___step : K.lookup f_Disk___step = some ⟨oc_Disk___step, od_Disk___step, .func (PySem.W.fnOf "_step" "Disk._step" (defArgs s_Disk___step) (defBody s_Disk___step) (defScope s_Disk___step) .none kV_Disk___step dc_Disk___step pm_Disk___step an_Disk___step cd_Disk___step ct_Disk___step), sl_Disk___step⟩) (c_Disk___step : PySem.W.codeIn K cd_Disk___step "Disk._step" = true) (k_Disk___step : PySem.W.keepIn K (.ref f_Disk___step) = true)
    (a__law_so : PySem.W.nsIn K mainGlobals "_law_so" = some (some (.ref f__law_so))) (l__law_so : K.lookup f__law_so = some ⟨oc__law_so, od__law_so, .func (PySem.W.fnOf "_law_so" "_law_so" (defArgs s__law_so) (defBody s__law_so) (defScope s__law_so) .none kV__law_so dc__law_so pm__law_so an__law_so cd__law_so ct__law_so), sl__law_so⟩) (c__law_so : PySem.W.codeIn K cd__law_so "_law_so" = true) (k__law_so : PySem.W.keepIn K (.ref f__law_so) = true)
    (a__law_numbers : PySem.W.nsIn K mainGlobals "_law_numbers" = some (some (.ref f__law_numbers))) (l__law_numbers : K.lookup f__law_numbers = some ⟨oc__law_numbers, od__law_numbers, .func (PySem.W.fnOf "_law_numbers" "_law_numbers" (defArgs s__law_numbers) (defBody s__law_numbers) (defScope s__law_numbers) .none kV__law_numbers dc__law_numbers pm__law_numbers an__law_numbers cd__law_numbers ct__law_numbers), sl__law_numbers⟩) (c__law_numbers : PySem.W.codeIn K cd__law_numbers "_law_numbers" = true) (k__law_numbers : PySem.W.keepIn K (.ref f__law_numbers) = true)
    (a__law_draw : PySem.W.nsIn K mainGlobals "_law_draw" = some (some (.ref f__law_draw))) (l__law_draw : K.lookup f__law_draw = some ⟨oc__law_draw, od__law_draw, .func (PySem.W.fnOf "_law_draw" "_law_draw" (defArgs s__law_draw) (defBody s__law_draw) (defScope s__law_draw) .none kV__law_draw dc__law_draw pm__law_draw an__law_draw cd__law_draw ct__law_draw), sl__law_draw⟩) (c__law_draw : PySem.W.codeIn K cd__law_draw "_law_draw" = true) (k__law_draw : PySem.W.keepIn K (.ref f__law_draw) = true)
    (a__law_take : PySem.W.nsIn K mainGlobals "_law_take" = some (some (.ref f__law_take))) (l__law_take : K.lookup f__law_take = some ⟨oc__law_take, od__law_take, .func (PySem.W.fnOf "_law_take" "_law_take" (defArgs s__law_take) (defBody s__law_take) (defScope s__law_take) .none kV__law_take dc__law_take pm__law_take an__law_take cd__law_take ct__law_take), sl__law_take⟩) (c__law_take : PySem.W.codeIn K cd__law_take "_law_take" = true) (k__law_take : PySem.W.keepIn K (.ref f__law_take) = true)
    (a__law_text : PySem.W.nsIn K mainGlobals "_law_text" = some (some (.ref f__law_text))) (l__law_text : K.lookup f__law_text = some ⟨oc__law_text, od__law_text, .func (PySem.W.fnOf "_law_text" "_law_text" (defArgs s__law_text) (defBody s__law_text) (defScope s__law_text) .none kV__law_text dc__law_text pm__law_text an__law_text cd__law_text ct__law_text), sl__law_text⟩) (c__law_text : PySem.W.codeIn K cd__law_text "_law_text" = true) (k__law_text : PySem.W.keepIn K (.ref f__law_text) = true)
    (a__law_fates : PySem.W.nsIn K mainGlobals "_law_fates" = some (some (.ref f__law_fates))) (l__law_fates : K.lookup f__law_fates = some ⟨oc__law_fates, od__law_fates, .func (PySem.W.fnOf "_law_fates" "_law_fates" (defArgs s__law_fates) (defBody s__law_fates) (defScope s__law_fates) .none kV__law_fates dc__law_fates pm__law_fates an__law_fates cd__law_fates ct__law_fates), sl__law_fates⟩) (c__law_fates : PySem.W.codeIn K cd__law_fates "_law_fates" = true) (k__law_fates : PySem.W.keepIn K (.ref f__law_fates) = true)
    (a__law_done : PySem.W.nsIn K mainGlobals "_law_done" = some (some (.ref f__law_done))) (l__law_done : K.lookup f__law_done = some ⟨oc__law_done, od__law_done, .func (PySem.W.fnOf "_law_done" "_law_done" (defArgs s__law_done) (defBody s__law_done) (defScope s__law_done) .none kV__law_done dc__law_done pm__law_done an__law_done cd__law_done ct__law_done), sl__law_done⟩) (c__law_done : PySem.W.codeIn K cd__law_done "_law_done" = true) (k__law_done : PySem.W.keepIn K (.ref f__law_done) = true)
    (a__law_off_at : PySem.W.nsIn K mainGlobals "_law_off_at" = some (some (.ref f__law_off_at))) (l__law_off_at : K.lookup f__law_off_at = some ⟨oc__law_off_at, od__law_off_at, .func (PySem.W.fnOf "_law_off_at" "_law_off_at" (defArgs s__law_off_at) (defBody s__law_off_at) (defScope s__law_off_at) .none kV__law_off_at dc__law_off_at pm__law_off_at an__law_off_at cd__law_off_at ct__law_off_at), sl__law_off_at⟩) (c__law_off_at : PySem.W.codeIn K cd__law_off_at "_law_off_at" = true) (k__law_off_at : PySem.W.keepIn K (.ref f__law_off_at) = true)
    (a_law : PySem.W.nsIn K mainGlobals "law" = some (some (.ref f_law))) (l_law : K.lookup f_law = some ⟨oc_law, od_law, .func (PySem.W.fnOf "law" "law" (defArgs s_law) (defBody s_law) (defScope s_law) .none kV_law dc_law pm_law an_law cd_law ct_law), sl_law⟩) (c_law : PySem.W.codeIn K cd_law "law" = true) (k_law : PySem.W.keepIn K (.ref f_law) = true)
    (na_Crashed : PySem.W.nsIn K mainGlobals "Crashed" = some (some (.ref C_Crashed))) (nq_Crashed : PySem.W.excIn K C_Crashed exB "Exception.__new__" = true) (nk_Crashed : PySem.W.keepIn K (.ref C_Crashed) = true) (nb_Crashed : PySem.W.subIn K (.ref C_Crashed) (.type "BaseException") = some true) (ny_Crashed : PySem.W.typeIn K (.ref C_Crashed) = some (.type "type"))
    (z_GREATEST_FATE : PySem.W.nsIn K mainGlobals "GREATEST_FATE" = some (some (.int 10000 tk_GREATEST_FATE)))
    (z_LAST_CELL : PySem.W.nsIn K mainGlobals "LAST_CELL" = some (some (.int 1000000 tk_LAST_CELL)))
    (z_MOST_CHARACTERS : PySem.W.nsIn K mainGlobals "MOST_CHARACTERS" = some (some (.int 2000 tk_MOST_CHARACTERS)))
    (z_MOST_FATES : PySem.W.nsIn K mainGlobals "MOST_FATES" = some (some (.int 10000 tk_MOST_FATES)))
    (z_MOST_STEPS : PySem.W.nsIn K mainGlobals "MOST_STEPS" = some (some (.int 1000000 tk_MOST_STEPS)))
    (ea_BadValue : PySem.W.nsIn K mainGlobals "BadValue" = some (some (.ref C_BadValue)))
    (ex_BadValue : K.lookup C_BadValue = some (excClassObj nm_BadValue q_BadValue C_BadValue N_BadValue bs_BadValue [.ref S_BadValue, .type "Exception", .type "BaseException", .type "object"] true sn_BadValue sub_BadValue ab_BadValue col_BadValue dd_BadValue m0_BadValue m1_BadValue m2_BadValue m3_BadValue m5_BadValue "Exception.__new__"))
    (es_BadValue : PySem.W.findIn K (.ref C_BadValue) "__setattr__" = some (some (.builtin "object.__setattr__"))) (eg_BadValue : PySem.W.findIn K (.ref C_BadValue) "__getattribute__" = some (some (.builtin "BaseException.__getattribute__"))) (eh_BadValue : PySem.W.findIn K (.ref C_BadValue) "__getattr__" = some none) (en_BadValue : PySem.W.findIn K (.ref C_BadValue) "at" = some none)
    (ei_BadValue : PySem.W.findIn K (.ref C_BadValue) "__init__" = some (some (.ref fI_BadValue))) (et_BadValue : PySem.W.typeIn K (.ref fI_BadValue) = some (.type "function"))
    (el_BadValue : K.lookup fI_BadValue = some ⟨oc_eBadValue, od_eBadValue, .func (PySem.W.fnOf "__init__" "BadValue.__init__" (Eat.iA p1_BadValue p2_BadValue) (Eat.iB q1_BadValue q2_BadValue q3_BadValue q4_BadValue) Eat.iS .none .none dc_eBadValue pm_eBadValue an_eBadValue cd_eBadValue ct_eBadValue), sl_eBadValue⟩) (ec_BadValue : PySem.W.codeIn K cd_eBadValue "BadValue.__init__" = true)
    (ek_BadValue : PySem.W.keepIn K (.ref C_BadValue) = true) (eb_BadValue : PySem.W.subIn K (.ref C_BadValue) (.type "BaseException") = some true) (ey_BadValue : PySem.W.typeIn K (.ref C_BadValue) = some (.type "type")) (ed_BadValue : PySem.W.hasDictIn K C_BadValue = true) (ez_BadValue : PySem.W.isClsIn K C_BadValue = true) (ew_BadValue : PySem.W.subIn K (.ref C_BadValue) (.ref C_BadValue) = some true)
    (xm_Crashed_Crashed : PySem.W.subIn K (.ref C_Crashed) (.ref C_Crashed) = some true) (xc_Crashed_Crashed : PySem.W.isClsIn K C_Crashed = true)
    (on_Disk_cells_read : PySem.W.findIn K (.ref C_Disk) "_cells_read" = some none)
    (on_Disk_cells_written : PySem.W.findIn K (.ref C_Disk) "_cells_written" = some none)
    (on_Disk_durable : PySem.W.findIn K (.ref C_Disk) "_durable" = some none)
    (on_Disk_is_down : PySem.W.findIn K (.ref C_Disk) "_is_down" = some none)
    (on_Disk_shown : PySem.W.findIn K (.ref C_Disk) "_shown" = some none)
    (on_Disk_steps_left : PySem.W.findIn K (.ref C_Disk) "_steps_left" = some none)
    (on_Disk_waiting : PySem.W.findIn K (.ref C_Disk) "_waiting" = some none)
    (z_all : PySem.W.nsIn K mainGlobals "all" = some none)
    (z_bool : PySem.W.nsIn K mainGlobals "bool" = some none)
    (z_dict : PySem.W.nsIn K mainGlobals "dict" = some none)
    (z_int : PySem.W.nsIn K mainGlobals "int" = some none)
    (z_isinstance : PySem.W.nsIn K mainGlobals "isinstance" = some none)
    (z_len : PySem.W.nsIn K mainGlobals "len" = some none)
    (z_list : PySem.W.nsIn K mainGlobals "list" = some none)
    (z_max : PySem.W.nsIn K mainGlobals "max" = some none)
    (z_range : PySem.W.nsIn K mainGlobals "range" = some none)
    (z_str : PySem.W.nsIn K mainGlobals "str" = some none)
    (z_tuple : PySem.W.nsIn K mainGlobals "tuple" = some none)
    (z_zip : PySem.W.nsIn K mainGlobals "zip" = some none)
    (oa_Disk : PySem.W.nsIn K mainGlobals "Disk" = some (some (.ref C_Disk))) (og_Disk : PySem.W.plainGet K C_Disk Str.empty = true) (oh_Disk : PySem.W.hasDictIn K C_Disk = true) (oo_Disk : PySem.W.plainOver K C_Disk = true) (os_Disk : PySem.W.findIn K (.ref C_Disk) "__setattr__" = some (some (.builtin "object.__setattr__"))) (om_Disk : PySem.W.makesIn K C_Disk = true) (ok_Disk : PySem.W.keepIn K (.ref C_Disk) = true) :
    ∃ fd : FuncData, (∀ (s : Shared) (v : Value), BindsTo s fd ⟨[v], []⟩ [("script", v)]) ∧ ∀ base : Heap, K.In base → base.Ns mainGlobals mg → FnOk l.prog w K mg base CX0 6 fa fd ["script"] (sp_law K) := by
  have e := hfa.symm.trans (PySem.W.mg_of X G a_law)
  cases e
  have T : Txt K mg C_Crashed C_Disk tk_GREATEST_FATE tk_LAST_CELL tk_MOST_CHARACTERS tk_MOST_FATES tk_MOST_STEPS C_BadValue fI_BadValue := { n_Crashed := { gC := PySem.W.mg_of X G na_Crashed, q := nq_Crashed, kC := nk_Crashed, exC := nb_Crashed, tyC := ny_Crashed }, c_GREATEST_FATE := PySem.W.mg_of X G z_GREATEST_FATE, c_LAST_CELL := PySem.W.mg_of X G z_LAST_CELL, c_MOST_CHARACTERS := PySem.W.mg_of X G z_MOST_CHARACTERS, c_MOST_FATES := PySem.W.mg_of X G z_MOST_FATES, c_MOST_STEPS := PySem.W.mg_of X G z_MOST_STEPS, e_BadValue := { gC := PySem.W.mg_of X G ea_BadValue, cls := ⟨nm_BadValue, q_BadValue, N_BadValue, bs_BadValue, _, sn_BadValue, sub_BadValue, ab_BadValue, col_BadValue, dd_BadValue, m0_BadValue, m1_BadValue, m2_BadValue, m3_BadValue, m5_BadValue, ex_BadValue, (show exRow exEnd = true by decide +kernel)⟩, sa := es_BadValue, ga := eg_BadValue, gg := eh_BadValue, noN := en_BadValue, iC := ei_BadValue, tC := et_BadValue, kC := ek_BadValue, exC := eb_BadValue, tyC := ey_BadValue, hdC := ed_BadValue, te := names_self eb_BadValue ez_BadValue ey_BadValue ew_BadValue, fn := ⟨_, _, _, _, _, _, _, _, _, _, _, _, _, _, el_BadValue, ec_BadValue⟩ }, x_Crashed_Crashed := names_of nb_Crashed xc_Crashed_Crashed ny_Crashed xm_Crashed_Crashed, f_Disk_cells_read := on_Disk_cells_read, f_Disk_cells_written := on_Disk_cells_written, f_Disk_durable := on_Disk_durable, f_Disk_is_down := on_Disk_is_down, f_Disk_shown := on_Disk_shown, f_Disk_steps_left := on_Disk_steps_left, f_Disk_waiting := on_Disk_waiting, b_all := PySem.W.mg_none_of X G z_all, b_bool := PySem.W.mg_none_of X G z_bool, b_dict := PySem.W.mg_none_of X G z_dict, b_int := PySem.W.mg_none_of X G z_int, b_isinstance := PySem.W.mg_none_of X G z_isinstance, b_len := PySem.W.mg_none_of X G z_len, b_list := PySem.W.mg_none_of X G z_list, b_max := PySem.W.mg_none_of X G z_max, b_range := PySem.W.mg_none_of X G z_range, b_str := PySem.W.mg_none_of X G z_str, b_tuple := PySem.W.mg_none_of X G z_tuple, b_zip := PySem.W.mg_none_of X G z_zip, o_Disk := ⟨og_Disk, oh_Disk, oo_Disk, os_Disk⟩ }
  have F__wall := fun_mk (st := s__wall) l__wall c__wall k__wall
  have b__wall := F__wall.binds (ps := ["k"]) fun _ _ _ _ _ _ us hl => match us, hl with | [_], _ => rfl
  have m__wall := PySem.W.mg_of X G a__wall
  have F_is_integer := fun_mk (st := s_is_integer) l_is_integer c_is_integer k_is_integer
  have b_is_integer := F_is_integer.binds (ps := ["value"]) fun _ _ _ _ _ _ us hl => match us, hl with | [_], _ => rfl
  have m_is_integer := PySem.W.mg_of X G a_is_integer
  have F_is_sequence := fun_mk (st := s_is_sequence) l_is_sequence c_is_sequence k_is_sequence
  have b_is_sequence := F_is_sequence.binds (ps := ["value"]) fun _ _ _ _ _ _ us hl => match us, hl with | [_], _ => rfl
  have m_is_sequence := PySem.W.mg_of X G a_is_sequence
  have F_is_within := fun_mk (st := s_is_within) l_is_within c_is_within k_is_within
  have b_is_within := F_is_within.binds (ps := ["value", "least", "most"]) fun _ _ _ _ _ _ us hl => match us, hl with | [_, _, _], _ => rfl
  have m_is_within := PySem.W.mg_of X G a_is_within
  have F_is_cell := fun_mk (st := s_is_cell) l_is_cell c_is_cell k_is_cell
  have b_is_cell := F_is_cell.binds (ps := ["value"]) fun _ _ _ _ _ _ us hl => match us, hl with | [_], _ => rfl
  have m_is_cell := PySem.W.mg_of X G a_is_cell
  have F_is_cell_text := fun_mk (st := s_is_cell_text) l_is_cell_text c_is_cell_text k_is_cell_text
  have b_is_cell_text := F_is_cell_text.binds (ps := ["value"]) fun _ _ _ _ _ _ us hl => match us, hl with | [_], _ => rfl
  have m_is_cell_text := PySem.W.mg_of X G a_is_cell_text
  have F_are_fates := fun_mk (st := s_are_fates) l_are_fates c_are_fates k_are_fates
  have b_are_fates := F_are_fates.binds (ps := ["value"]) fun _ _ _ _ _ _ us hl => match us, hl with | [_], _ => rfl
  have m_are_fates := PySem.W.mg_of X G a_are_fates
  have F_Disk____init__ := fun_mk (st := s_Disk____init__) l_Disk____init__ c_Disk____init__ k_Disk____init__
  have b_Disk____init__ := F_Disk____init__.binds (ps := ["self"]) fun _ _ _ _ _ _ us hl => match us, hl with | [_], _ => rfl
  have F_Disk__write := fun_mk (st := s_Disk__write) l_Disk__write c_Disk__write k_Disk__write
  have b_Disk__write := F_Disk__write.binds (ps := ["self", "cell", "text"]) fun _ _ _ _ _ _ us hl => match us, hl with | [_, _, _], _ => rfl
  have F_Disk__read := fun_mk (st := s_Disk__read) l_Disk__read c_Disk__read k_Disk__read
  have b_Disk__read := F_Disk__read.binds (ps := ["self", "cell"]) fun _ _ _ _ _ _ us hl => match us, hl with | [_, _], _ => rfl
  have F_Disk__sync := fun_mk (st := s_Disk__sync) l_Disk__sync c_Disk__sync k_Disk__sync
  have b_Disk__sync := F_Disk__sync.binds (ps := ["self"]) fun _ _ _ _ _ _ us hl => match us, hl with | [_], _ => rfl
  have F_Disk__pending := fun_mk (st := s_Disk__pending) l_Disk__pending c_Disk__pending k_Disk__pending
  have b_Disk__pending := F_Disk__pending.binds (ps := ["self"]) fun _ _ _ _ _ _ us hl => match us, hl with | [_], _ => rfl
  have F_Disk__limit := fun_mk (st := s_Disk__limit) l_Disk__limit c_Disk__limit k_Disk__limit
  have b_Disk__limit := F_Disk__limit.binds (ps := ["self", "steps"]) fun _ _ _ _ _ _ us hl => match us, hl with | [_, _], _ => rfl
  have F_Disk__restart := fun_mk (st := s_Disk__restart) l_Disk__restart c_Disk__restart k_Disk__restart
  have b_Disk__restart := F_Disk__restart.binds (ps := ["self", "fates"]) fun _ _ _ _ _ _ us hl => match us, hl with | [_, _], _ => rfl
  have F_Disk__reads := fun_mk (st := s_Disk__reads) l_Disk__reads c_Disk__reads k_Disk__reads
  have b_Disk__reads := F_Disk__reads.binds (ps := ["self"]) fun _ _ _ _ _ _ us hl => match us, hl with | [_], _ => rfl
  have F_Disk__writes := fun_mk (st := s_Disk__writes) l_Disk__writes c_Disk__writes k_Disk__writes
  have b_Disk__writes := F_Disk__writes.binds (ps := ["self"]) fun _ _ _ _ _ _ us hl => match us, hl with | [_], _ => rfl
  have F_Disk__forget := fun_mk (st := s_Disk__forget) l_Disk__forget c_Disk__forget k_Disk__forget
  have b_Disk__forget := F_Disk__forget.binds (ps := ["self"]) fun _ _ _ _ _ _ us hl => match us, hl with | [_], _ => rfl
  have F_Disk___step := fun_mk (st := s_Disk___step) l_Disk___step c_Disk___step k_Disk___step
  have b_Disk___step := F_Disk___step.binds (ps := ["self"]) fun _ _ _ _ _ _ us hl => match us, hl with | [_], _ => rfl
  have F__law_so := fun_mk (st := s__law_so) l__law_so c__law_so k__law_so
  have b__law_so := F__law_so.binds (ps := ["found", "meant"]) fun _ _ _ _ _ _ us hl => match us, hl with | [_, _], _ => rfl
  have m__law_so := PySem.W.mg_of X G a__law_so
  have F__law_numbers := fun_mk (st := s__law_numbers) l__law_numbers c__law_numbers k__law_numbers
  have b__law_numbers := F__law_numbers.binds (ps := ["script"]) fun _ _ _ _ _ _ us hl => match us, hl with | [_], _ => rfl
  have m__law_numbers := PySem.W.mg_of X G a__law_numbers
  have F__law_draw := fun_mk (st := s__law_draw) l__law_draw c__law_draw k__law_draw
  have b__law_draw := F__law_draw.binds (ps := ["row", "at", "limit"]) fun _ _ _ _ _ _ us hl => match us, hl with | [_, _, _], _ => rfl
  have m__law_draw := PySem.W.mg_of X G a__law_draw
  have F__law_take := fun_mk (st := s__law_take) l__law_take c__law_take k__law_take
  have b__law_take := F__law_take.binds (ps := ["row", "spot", "limit"]) fun _ _ _ _ _ _ us hl => match us, hl with | [_, _, _], _ => rfl
  have m__law_take := PySem.W.mg_of X G a__law_take
  have F__law_text := fun_mk (st := s__law_text) l__law_text c__law_text k__law_text
  have b__law_text := F__law_text.binds (ps := ["row", "spot", "many"]) fun _ _ _ _ _ _ us hl => match us, hl with | [_, _, _], _ => rfl
  have m__law_text := PySem.W.mg_of X G a__law_text
  have F__law_fates := fun_mk (st := s__law_fates) l__law_fates c__law_fates k__law_fates
  have b__law_fates := F__law_fates.binds (ps := ["row", "spot", "many"]) fun _ _ _ _ _ _ us hl => match us, hl with | [_, _, _], _ => rfl
  have m__law_fates := PySem.W.mg_of X G a__law_fates
  have F__law_done := fun_mk (st := s__law_done) l__law_done c__law_done k__law_done
  have b__law_done := F__law_done.binds (ps := ["disk", "kind", "cell", "text"]) fun _ _ _ _ _ _ us hl => match us, hl with | [_, _, _, _], _ => rfl
  have m__law_done := PySem.W.mg_of X G a__law_done
  have F__law_off_at := fun_mk (st := s__law_off_at) l__law_off_at c__law_off_at k__law_off_at
  have b__law_off_at := F__law_off_at.binds (ps := ["disk", "name", "value"]) fun _ _ _ _ _ _ us hl => match us, hl with | [_, _, _], _ => rfl
  have m__law_off_at := PySem.W.mg_of X G a__law_off_at
  have F_law := fun_mk (st := s_law) l_law c_law k_law
  have b_law := F_law.binds (ps := ["script"]) fun _ _ _ _ _ _ us hl => match us, hl with | [_], _ => rfl
  have m_law := PySem.W.mg_of X G a_law
  refine ⟨PySem.W.fnOf "law" "law" (defArgs s_law) (defBody s_law) (defScope s_law) .none kV_law dc_law pm_law an_law cd_law ct_law, fun s v => .of_eq rfl, fun base _ _ => ?_⟩
  have O__wall : Ok l.prog w K mg base 1 "_wall" ["k"] spV := ⟨_, _, fn_void fun _ _ _ _ z => z, m__wall, F__wall.kp, b__wall⟩
  have Q_is_integer := ok_is_integer (P := l.prog) (w := w) (base := base) F_is_integer T 
  have O_is_integer : Ok l.prog w K mg base 1 "is_integer" ["value"] (sp_is_integer) := ⟨_, _, Q_is_integer, m_is_integer, F_is_integer.kp, b_is_integer⟩
  have Q_is_sequence := ok_is_sequence (P := l.prog) (w := w) (base := base) F_is_sequence T 
  have O_is_sequence : Ok l.prog w K mg base 1 "is_sequence" ["value"] (sp_is_sequence) := ⟨_, _, Q_is_sequence, m_is_sequence, F_is_sequence.kp, b_is_sequence⟩
  have Q_is_within := ok_is_within (P := l.prog) (w := w) (base := base) F_is_within T O_is_integer
  have O_is_within : Ok l.prog w K mg base 2 "is_within" ["value", "least", "most"] (sp_is_within) := ⟨_, _, Q_is_within, m_is_within, F_is_within.kp, b_is_within⟩
  have Q_is_cell := ok_is_cell (P := l.prog) (w := w) (base := base) F_is_cell T O_is_within
  have O_is_cell : Ok l.prog w K mg base 3 "is_cell" ["value"] (sp_is_cell) := ⟨_, _, Q_is_cell, m_is_cell, F_is_cell.kp, b_is_cell⟩
  have Q_is_cell_text := ok_is_cell_text (P := l.prog) (w := w) (base := base) F_is_cell_text T 
  have O_is_cell_text : Ok l.prog w K mg base 1 "is_cell_text" ["value"] (sp_is_cell_text) := ⟨_, _, Q_is_cell_text, m_is_cell_text, F_is_cell_text.kp, b_is_cell_text⟩
  have Q_are_fates := ok_are_fates (P := l.prog) (w := w) (base := base) F_are_fates T O_is_sequence O_is_within
  have O_are_fates : Ok l.prog w K mg base 3 "are_fates" ["value"] (sp_are_fates) := ⟨_, _, Q_are_fates, m_are_fates, F_are_fates.kp, b_are_fates⟩
  have Q_Disk____init__ := ok_Disk____init__ (P := l.prog) (w := w) (base := base) F_Disk____init__ T 
  have O_Disk____init__ : OkI CX0 l.prog w K mg base 1 C_Disk "Disk" ["self"] (sp_Disk____init__ C_Disk) := ⟨_, _, Q_Disk____init__, ⟨om_Disk, ma_Disk____init__, mf_Disk____init__, ok_Disk⟩, PySem.W.mg_of X G oa_Disk, b_Disk____init__⟩
  have Q_Disk___step := ok_Disk___step (P := l.prog) (w := w) (base := base) F_Disk___step T 
  have O_Disk___step : OkM (L2.CX l.prog w) l.prog w K mg base 3 C_Disk "_step" ["self"] (sp_Disk___step C_Disk C_Crashed) := ⟨_, _, Q_Disk___step, ⟨ma_Disk___step, mf_Disk___step, F_Disk___step.kp⟩, b_Disk___step⟩
  have Q_Disk__write := ok_Disk__write (P := l.prog) (w := w) (base := base) F_Disk__write T O_Disk___step O_is_cell O_is_cell_text
  have O_Disk__write : OkM (L2.CX l.prog w) l.prog w K mg base 4 C_Disk "write" ["self", "cell", "text"] (sp_Disk__write C_Disk C_Crashed C_BadValue) := ⟨_, _, Q_Disk__write, ⟨ma_Disk__write, mf_Disk__write, F_Disk__write.kp⟩, b_Disk__write⟩
  have Q_Disk__read := ok_Disk__read (P := l.prog) (w := w) (base := base) F_Disk__read T O_is_cell
  have O_Disk__read : OkM (L2.CX l.prog w) l.prog w K mg base 4 C_Disk "read" ["self", "cell"] (sp_Disk__read C_Disk C_Crashed C_BadValue) := ⟨_, _, Q_Disk__read, ⟨ma_Disk__read, mf_Disk__read, F_Disk__read.kp⟩, b_Disk__read⟩
  have Q_Disk__sync := ok_Disk__sync (P := l.prog) (w := w) (base := base) F_Disk__sync T O_Disk___step
  have O_Disk__sync : OkM (L2.CX l.prog w) l.prog w K mg base 4 C_Disk "sync" ["self"] (sp_Disk__sync C_Disk C_Crashed) := ⟨_, _, Q_Disk__sync, ⟨ma_Disk__sync, mf_Disk__sync, F_Disk__sync.kp⟩, b_Disk__sync⟩
  have Q_Disk__pending := ok_Disk__pending (P := l.prog) (w := w) (base := base) F_Disk__pending T 
  have O_Disk__pending : OkM CX0 l.prog w K mg base 1 C_Disk "pending" ["self"] (sp_Disk__pending C_Disk) := ⟨_, _, Q_Disk__pending, ⟨ma_Disk__pending, mf_Disk__pending, F_Disk__pending.kp⟩, b_Disk__pending⟩
  have Q_Disk__limit := ok_Disk__limit (P := l.prog) (w := w) (base := base) F_Disk__limit T O_is_within
  have O_Disk__limit : OkM (L2.CX l.prog w) l.prog w K mg base 3 C_Disk "limit" ["self", "steps"] (sp_Disk__limit C_Disk C_BadValue) := ⟨_, _, Q_Disk__limit, ⟨ma_Disk__limit, mf_Disk__limit, F_Disk__limit.kp⟩, b_Disk__limit⟩
  have kb_Disk__limit_0_steps : OkMK (L2.CX l.prog w) l.prog w K mg base 3 C_Disk "limit" ["self", "steps"] (sp_Disk__limit C_Disk C_BadValue) ["steps"] [0] := ⟨_, _, Q_Disk__limit, ⟨ma_Disk__limit, mf_Disk__limit, F_Disk__limit.kp⟩, fun us ws h1 h2 => match us, ws, h1, h2 with | [_], [_], _, _ => rfl⟩
  have Q_Disk__restart := ok_Disk__restart (P := l.prog) (w := w) (base := base) F_Disk__restart T O_are_fates
  have O_Disk__restart : OkM (L2.CX l.prog w) l.prog w K mg base 4 C_Disk "restart" ["self", "fates"] (sp_Disk__restart C_Disk C_BadValue) := ⟨_, _, Q_Disk__restart, ⟨ma_Disk__restart, mf_Disk__restart, F_Disk__restart.kp⟩, b_Disk__restart⟩
  have Q_Disk__writes := ok_Disk__writes (P := l.prog) (w := w) (base := base) F_Disk__writes T 
  have O_Disk__writes : OkM CX0 l.prog w K mg base 1 C_Disk "writes" ["self"] (sp_Disk__writes C_Disk) := ⟨_, _, Q_Disk__writes, ⟨ma_Disk__writes, mf_Disk__writes, F_Disk__writes.kp⟩, b_Disk__writes⟩
  have Q_Disk__forget := ok_Disk__forget (P := l.prog) (w := w) (base := base) F_Disk__forget T 
  have O_Disk__forget : OkM CX0 l.prog w K mg base 1 C_Disk "forget" ["self"] (sp_Disk__forget C_Disk) := ⟨_, _, Q_Disk__forget, ⟨ma_Disk__forget, mf_Disk__forget, F_Disk__forget.kp⟩, b_Disk__forget⟩
  have O__law_so : Ok l.prog w K mg base 4 "_law_so" ["found", "meant"] (sp__law_so 4) := rok__law_so F__law_so T m__law_so b__law_so 4
  have Q__law_numbers := ok__law_numbers (P := l.prog) (w := w) (base := base) F__law_numbers T 
  have O__law_numbers : Ok l.prog w K mg base 1 "_law_numbers" ["script"] (sp__law_numbers K) := ⟨_, _, Q__law_numbers, m__law_numbers, F__law_numbers.kp, b__law_numbers⟩
  have Q__law_draw := ok__law_draw (P := l.prog) (w := w) (base := base) F__law_draw T 
  have O__law_draw : Ok l.prog w K mg base 1 "_law_draw" ["row", "at", "limit"] (sp__law_draw) := ⟨_, _, Q__law_draw, m__law_draw, F__law_draw.kp, b__law_draw⟩
  have Q__law_take := ok__law_take (P := l.prog) (w := w) (base := base) F__law_take T O__law_draw
  have O__law_take : Ok l.prog w K mg base 2 "_law_take" ["row", "spot", "limit"] (sp__law_take) := ⟨_, _, Q__law_take, m__law_take, F__law_take.kp, b__law_take⟩
  have Q__law_text := ok__law_text (P := l.prog) (w := w) (base := base) F__law_text T O__law_take
  have O__law_text : Ok l.prog w K mg base 3 "_law_text" ["row", "spot", "many"] (sp__law_text) := ⟨_, _, Q__law_text, m__law_text, F__law_text.kp, b__law_text⟩
  have Q__law_fates := ok__law_fates (P := l.prog) (w := w) (base := base) F__law_fates T O__law_take
  have O__law_fates : Ok l.prog w K mg base 3 "_law_fates" ["row", "spot", "many"] (sp__law_fates) := ⟨_, _, Q__law_fates, m__law_fates, F__law_fates.kp, b__law_fates⟩
  have Q__law_done := ok__law_done (P := l.prog) (w := w) (base := base) F__law_done T O_Disk__read O_Disk__sync O_Disk__write
  have O__law_done : Ok l.prog w K mg base 5 "_law_done" ["disk", "kind", "cell", "text"] (sp__law_done C_Disk) := ⟨_, _, Q__law_done, m__law_done, F__law_done.kp, b__law_done⟩
  have Q__law_off_at := ok__law_off_at (P := l.prog) (w := w) (base := base) F__law_off_at T O_Disk__limit O_Disk__read O_Disk__restart O_Disk__write
  have O__law_off_at : Ok l.prog w K mg base 5 "_law_off_at" ["disk", "name", "value"] (sp__law_off_at C_Disk) := ⟨_, _, Q__law_off_at, m__law_off_at, F__law_off_at.kp, b__law_off_at⟩
  exact ok_law F_law T O_Disk____init__ O_Disk__forget O_Disk__limit kb_Disk__limit_0_steps O_Disk__pending O_Disk__read O_Disk__restart O_Disk__sync O_Disk__writes O__law_done O__law_fates O__law_numbers O__law_off_at O__law_so O__law_take O__law_text
theorem walk {l : PySem.W.OpenLaw} {q : Program} {loose : List Str} {XP : (Str → Option Value) → Heap → Prop} {YP : World → Heap → Prop} {d : DefRec} {K : Params → PySem.W.Frag} (hn : l.most = some 63) (hdf : d.params.defaults = [])
    (hY : ∀ (w : World) (h : Heap), YP w h → (K w.params).In h)
    (F : ∀ (w : World) (mg : Str → Option Value) (fa : Addr) (h : Heap), (K w.params).In h → h.Ns mainGlobals mg → mg d.name = some (.ref fa) →
      ∃ fd : FuncData, (∀ (s : Shared) (u : Value), BindsTo s fd ⟨[u], []⟩ [("script", u)]) ∧ ∀ base : Heap, (K w.params).In base → base.Ns mainGlobals mg → FnOk l.prog w (K w.params) mg base CX0 6 fa fd ["script"] (sp_law (K w.params))) :
    PySem.W.WalkO q loose XP YP l.row.toRowW d [] (fun f vs => PySem.call f vs) :=
  L2.walk_of (n := 63) (k := 6) (x := "script") (CX := fun _ => CX0) (sp := fun w => sp_law (K w.params)) hn (by decide) hdf ⟨rfl, by decide, by decide⟩ hY F (fun _ _ a ns hl hO hS => ⟨a, ns, rfl, hS, hl, fun _ => rfl⟩) fun _ _ _ _ _ z => z
end Bx
open PySem PySem.W PyProof.Rows
set_option maxRecDepth 100000 in
set_option maxHeartbeats 0 in
theorem PySem.Challenge.cw_boundstead_k34_limits_take_disks_down_holds : PySem.Challenge.rw_boundstead_k34_limits_take_disks_down.Holds := by
  w_on; o_law; k_head; (case hw => w_witness2)
  k_fill
  refine Bx.walk (l := PySem.Challenge.rw_boundstead_k34_limits_take_disks_down) rfl rfl (fun w h Y => PySem.W.kIn_of Y) ?F
  case F =>
    intro w mg fa h KX G hmg
    refine' Bx.all_mk KX G hmg ?a__wall ?l__wall ?c__wall ?k__wall ?a_is_integer ?l_is_integer ?c_is_integer ?k_is_integer ?a_is_sequence ?l_is_sequence ?c_is_sequence ?k_is_sequence ?a_is_within ?l_is_within ?c_is_within ?k_is_within ?a_is_cell ?l_is_cell ?c_is_cell ?k_is_cell ?a_is_cell_text ?l_is_cell_text ?c_is_cell_text ?k_is_cell_text ?a_are_fates ?l_are_fates ?c_are_fates ?k_are_fates ?ma_Disk____init__ ?mf_Disk____init__ ?l_Disk____init__ ?c_Disk____init__ ?k_Disk____init__ ?ma_Disk__write ?mf_Disk__write ?l_Disk__write ?c_Disk__write ?k_Disk__write ?ma_Disk__read ?mf_Disk__read ?l_Disk__read ?c_Disk__read ?k_Disk__read ?ma_Disk__sync ?mf_Disk__sync ?l_Disk__sync ?c_Disk__sync ?k_Disk__sync ?ma_Disk__pending ?mf_Disk__pending ?l_Disk__pending ?c_Disk__pending ?k_Disk__pending ?ma_Disk__limit ?mf_Disk__limit ?l_Disk__limit ?c_Disk__limit ?k_Disk__limit ?ma_Disk__restart ?mf_Disk__restart ?l_Disk__restart ?c_Disk__restart ?k_Disk__restart ?ma_Disk__reads ?mf_Disk__reads ?l_Disk__reads ?c_Disk__reads ?k_Disk__reads ?ma_Disk__writes ?mf_Disk__writes ?l_Disk__writes ?c_Disk__writes ?k_Disk__writes ?ma_Disk__forget ?mf_Disk__forget ?l_Disk__forget ?c_Disk__forget ?k_Disk__forget ?ma_Disk___step ?mf_Disk___step ?l_Disk___step ?c_Disk___step ?k_Disk___step ?a__law_so ?l__law_so ?c__law_so ?k__law_so ?a__law_numbers ?l__law_numbers ?c__law_numbers ?k__law_numbers ?a__law_draw ?l__law_draw ?c__law_draw ?k__law_draw ?a__law_take ?l__law_take ?c__law_take ?k__law_take ?a__law_text ?l__law_text ?c__law_text ?k__law_text ?a__law_fates ?l__law_fates ?c__law_fates ?k__law_fates ?a__law_done ?l__law_done ?c__law_done ?k__law_done ?a__law_off_at ?l__law_off_at ?c__law_off_at ?k__law_off_at ?a_law ?l_law ?c_law ?k_law ?na_Crashed ?nq_Crashed ?nk_Crashed ?nb_Crashed ?ny_Crashed ?z_GREATEST_FATE ?z_LAST_CELL ?z_MOST_CHARACTERS ?z_MOST_FATES ?z_MOST_STEPS ?ea_BadValue ?ex_BadValue ?es_BadValue ?eg_BadValue ?eh_BadValue ?en_BadValue ?ei_BadValue ?et_BadValue ?el_BadValue ?ec_BadValue ?ek_BadValue ?eb_BadValue ?ey_BadValue ?ed_BadValue ?ez_BadValue ?ew_BadValue ?xm_Crashed_Crashed ?xc_Crashed_Crashed ?on_Disk_cells_read ?on_Disk_cells_written ?on_Disk_durable ?on_Disk_is_down ?on_Disk_shown ?on_Disk_steps_left ?on_Disk_waiting ?z_all ?z_bool ?z_dict ?z_int ?z_isinstance ?z_len ?z_list ?z_max ?z_range ?z_str ?z_tuple ?z_zip ?oa_Disk ?og_Disk ?oh_Disk ?oo_Disk ?os_Disk ?om_Disk ?ok_Disk
    (case oa_Disk => k_is); (case a__wall => k_is); (case l__wall => k_is); (case c__wall => k_is); (case k__wall => k_is); (case a_is_integer => k_is)
    (case l_is_integer => k_is); (case c_is_integer => k_is); (case k_is_integer => k_is); (case a_is_sequence => k_is); (case l_is_sequence => k_is); (case c_is_sequence => k_is)
    (case k_is_sequence => k_is); (case a_is_within => k_is); (case l_is_within => k_is); (case c_is_within => k_is); (case k_is_within => k_is); (case a_is_cell => k_is)
    (case l_is_cell => k_is); (case c_is_cell => k_is); (case k_is_cell => k_is); (case a_is_cell_text => k_is); (case l_is_cell_text => k_is); (case c_is_cell_text => k_is)
    (case k_is_cell_text => k_is); (case a_are_fates => k_is); (case l_are_fates => k_is); (case c_are_fates => k_is); (case k_are_fates => k_is); (case ma_Disk____init__ => k_is)
    (case mf_Disk____init__ => k_is); (case l_Disk____init__ => k_is); (case c_Disk____init__ => k_is); (case k_Disk____init__ => k_is); (case ma_Disk__write => k_is); (case mf_Disk__write => k_is)
    (case l_Disk__write => k_is); (case c_Disk__write => k_is); (case k_Disk__write => k_is); (case ma_Disk__read => k_is); (case mf_Disk__read => k_is); (case l_Disk__read => k_is)
    (case c_Disk__read => k_is); (case k_Disk__read => k_is); (case ma_Disk__sync => k_is); (case mf_Disk__sync => k_is); (case l_Disk__sync => k_is); (case c_Disk__sync => k_is)
    (case k_Disk__sync => k_is); (case ma_Disk__pending => k_is); (case mf_Disk__pending => k_is); (case l_Disk__pending => k_is); (case c_Disk__pending => k_is); (case k_Disk__pending => k_is)
    (case ma_Disk__limit => k_is); (case mf_Disk__limit => k_is); (case l_Disk__limit => k_is); (case c_Disk__limit => k_is); (case k_Disk__limit => k_is); (case ma_Disk__restart => k_is)
    (case mf_Disk__restart => k_is); (case l_Disk__restart => k_is); (case c_Disk__restart => k_is); (case k_Disk__restart => k_is); (case ma_Disk__reads => k_is); (case mf_Disk__reads => k_is)
    (case l_Disk__reads => k_is); (case c_Disk__reads => k_is); (case k_Disk__reads => k_is); (case ma_Disk__writes => k_is); (case mf_Disk__writes => k_is); (case l_Disk__writes => k_is)
    (case c_Disk__writes => k_is); (case k_Disk__writes => k_is); (case ma_Disk__forget => k_is); (case mf_Disk__forget => k_is); (case l_Disk__forget => k_is); (case c_Disk__forget => k_is)
    (case k_Disk__forget => k_is); (case ma_Disk___step => k_is); (case mf_Disk___step => k_is); (case l_Disk___step => k_is); (case c_Disk___step => k_is); (case k_Disk___step => k_is)
    (case a__law_so => k_is); (case l__law_so => k_is); (case c__law_so => k_is); (case k__law_so => k_is); (case a__law_numbers => k_is); (case l__law_numbers => k_is)
    (case c__law_numbers => k_is); (case k__law_numbers => k_is); (case a__law_draw => k_is); (case l__law_draw => k_is); (case c__law_draw => k_is); (case k__law_draw => k_is)
    (case a__law_take => k_is); (case l__law_take => k_is); (case c__law_take => k_is); (case k__law_take => k_is); (case a__law_text => k_is); (case l__law_text => k_is)
    (case c__law_text => k_is); (case k__law_text => k_is); (case a__law_fates => k_is); (case l__law_fates => k_is); (case c__law_fates => k_is); (case k__law_fates => k_is)
    (case a__law_done => k_is); (case l__law_done => k_is); (case c__law_done => k_is); (case k__law_done => k_is); (case a__law_off_at => k_is); (case l__law_off_at => k_is)
    (case c__law_off_at => k_is); (case k__law_off_at => k_is); (case a_law => k_is); (case l_law => k_is); (case c_law => k_is); (case k_law => k_is)
    (case na_Crashed => k_is); (case nq_Crashed => first | k_exc | (unfold Bx.exB; k_exc)); (case nk_Crashed => k_is); (case nb_Crashed => k_is); (case ny_Crashed => k_is); (case z_GREATEST_FATE => k_is)
    (case z_LAST_CELL => k_is); (case z_MOST_CHARACTERS => k_is); (case z_MOST_FATES => k_is); (case z_MOST_STEPS => k_is); (case ea_BadValue => k_is); (case ex_BadValue => k_is)
    (case es_BadValue => k_is); (case eg_BadValue => k_is); (case eh_BadValue => k_is); (case en_BadValue => k_is); (case ei_BadValue => k_is); (case et_BadValue => k_is)
    (case el_BadValue => k_is); (case ec_BadValue => k_is); (case ek_BadValue => k_is); (case eb_BadValue => k_is); (case ey_BadValue => k_is); (case ed_BadValue => k_is)
    (case ez_BadValue => k_is); (case ew_BadValue => first | rfl | k_is); (case xm_Crashed_Crashed => first | k_is | rfl); (case xc_Crashed_Crashed => first | k_is | rfl); (case on_Disk_cells_read => k_is); (case on_Disk_cells_written => k_is)
    (case on_Disk_durable => k_is); (case on_Disk_is_down => k_is); (case on_Disk_shown => k_is); (case on_Disk_steps_left => k_is); (case on_Disk_waiting => k_is); (case z_all => k_is)
    (case z_bool => k_is); (case z_dict => k_is); (case z_int => k_is); (case z_isinstance => k_is); (case z_len => k_is); (case z_list => k_is)
    (case z_max => k_is); (case z_range => k_is); (case z_str => k_is); (case z_tuple => k_is); (case z_zip => k_is); (case og_Disk => k_is)
    (case oh_Disk => k_is); (case oo_Disk => k_is); (case os_Disk => k_is); (case om_Disk => k_is); (case ok_Disk => k_is)
