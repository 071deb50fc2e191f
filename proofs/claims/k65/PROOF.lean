import PyProof.Rows.All
import Wide.All
import OpenK.AllK
import Wide.FinOn
import PyProof.RulesMatch
import HandS.ForMost
import HandS.Wide
import HandS.WideBits
import HandS.IsInst
import HandS.DictComp
import HandS.NoneIn
import HandS.More
import HandS.Codes
import HandS.Evl
import PyProof.StrOps2
import PyProof.RulesMatchSeq
import PyProof.Rows.MatchSeqLen
import PyProof.Rows.TupIter
import HandS.RaiseMore
import HandS.EndBits
import HandS.AnyAll
import KE.SortData
import HandS.SetKeys
import HandS.Conv
import HandS.Iter
import HandS.Style
import HandS.Walk
import HandS.SortInts
import PyProof.ReprLen
import PyProof.StrLawsRepr
import PyProof.ReprRoads
import HandS.EndTab
import PySem.Challenge.RW_seedbed_k65_circles_of_waits
set_option Elab.async false
set_option linter.all false
set_option maxRecDepth 100000
namespace SB
open PySem L2

/-! ### list + list, either of them the script -/
def rCatL (K : PySem.W.Frag) : R2 := fun x y H Q => ∃ l b xs zs, x = .ref l ∧ y = .ref b ∧ SqL K H l xs ∧ SqL K H b zs ∧ xs.length + zs.length ≤ sizeLine ∧ ∀ p, H p = none → Q (.ref p) (upd H p (.lst (xs ++ zs)))
theorem op_catL {X : Cx} : OpR X (binaryOp .Add) (rCatL X.K) := by
  intro pins s σ H x y v u Q I rx ry h
  obtain ⟨l, b, xs, zs, rfl, rfl, hH, hB, hz, q⟩ := h
  cases rx
  cases ry
  obtain ⟨its, r, p1, hl⟩ := I.list hH
  obtain ⟨its2, r2, p2, hl2⟩ := I.list hB
  have el := r.length
  have el2 := r2.length
  obtain ⟨⟨cls, dd, data, sl⟩, ho, hc, n, hd⟩ := p1.isList
  obtain ⟨⟨cls2, dd2, data2, sl2⟩, ho2, hc2, n2, hd2⟩ := p2.isList
  simp only at hc hd hc2 hd2
  subst hc hd hc2 hd2
  have ea : its.toArray ++ its2.toArray = (its ++ its2).toArray := by simp
  refine concat_meets ⟨_, ho, rfl⟩ ⟨_, ho2, rfl⟩ noFill_list_add seq_list_add PySem.F.slot_list_add PySem.F.entry_list_add (PySem.F.args_list_add_2 _ _) (PyProof.Rows.list_addW l b its.toArray its2.toArray n n2 dd dd2 sl sl2 (by simp only [List.size_toArray]; omega)) ⟨ho, ho2, ?_⟩
  rw [ea]
  exact ⟨.ref _, _, I.lnew (t' := s.toks) (r.append r2) (by rw [List.length_append]; omega), rfl, q _ I.fresh⟩

/-! ### match: the subject by values -/
structure PCs (X : Cx) (cs : List MatchCase) (t : V → TS) : Prop where
  run : ∀ (first : Bool) (pins : List (Addr × Obj)) (s : Shared) (σ : L2.St) (H : Hp) (v : V) (u : Value) (D : Ends), Inv X pins σ H s → RelV v u → t v D σ H →
    wpAny (model X.prog X.w) X.A (matchCases cs X.env u first) (SP X pins D) X.xe s
section
variable {X : Cx}
theorem pc_nil : PCs X [] (fun _ D σ H => D.nx σ H) := ⟨fun _ _ _ σ H _ _ _ I _ h => wpAny_matchCases_nil ⟨σ, H, I, h⟩⟩
def tVal (y : Str) (tb : TS) (tr : V → TS) : V → TS := fun v D σ H => scal v (.str y) = true ∧ if decide (v = .str y) = true then tb D σ H else tr v D σ H
theorem pc_str {y : Str} {j : Nat} {p p2 : Pos} {body : List Stmt} {rest : List MatchCase} {tb : TS} {tr : V → TS} (hb : PSs X body tb) (hr : PCs X rest tr) :
    PCs X (⟨.MatchValue (.Constant (.str y) j p) p2, none, body⟩ :: rest) (tVal y tb tr) := by
  refine ⟨fun first pins s σ H v u D I rv h => ?_⟩
  obtain ⟨hs, h⟩ := h
  refine wpAny_matchCases_cons (wpAny_matchPattern_Value (thn ((pe_str (X := X) (x := y) (j := j) (pos := p)).run pins s σ H (fun z H' => z = .str y ∧ H' = H) I ⟨rfl, rfl⟩) fun w' s1 ⟨z, H1, I1, rz, ez, eH⟩ => ?_))
  subst ez
  subst eH
  refine thn (op_eq (X := X) pins s1 σ H1 v (.str y) u w' (fun z H' => z = .bl (decide (v = .str y)) ∧ H' = H1) I1 rv rz ⟨hs, rfl, rfl⟩) fun c s2 ⟨z, H2, I2, rc, ez, eH⟩ => ?_
  subst ez
  subst eH
  cases rc
  refine wpAny_truthy_bool ?_
  cases hd : decide (v = V.str y) with
  | true =>
    rw [hd] at h
    exact wpAny_assignInOrder_none (hb.run pins s2 σ H2 D I2 h)
  | false =>
    rw [hd] at h
    exact hr.run false pins s2 σ H2 v u D I2 rv h
def tMatch (te : TE) (tc : V → TS) : TS := fun D σ H => te σ H fun v H1 => tc v D σ H1
theorem ps_match {e : Expr} {cs : List MatchCase} {pos : Pos} {te : TE} {tc : V → TS} (he : PE X e te) (hc : PCs X cs tc) : PS X (.Match e cs pos) (tMatch te tc) :=
  ⟨fun pins s σ H D I h => wpAny_Match (thn (he.run pins s σ H _ I h) fun u s1 ⟨v, H1, I1, rv, q⟩ => hc.run true pins s1 σ H1 v u D I1 rv q)⟩
end

/-! ### a def of the text, called -/
structure Fn (P : Program) (w : World) (K : PySem.W.Frag) (mg : Str → Option Value) (base : Heap) (k : Nat) (x : Str) (ps : List Str) (sp : Sp) : Prop where
  ex : ∃ f fd, mg x = some (.ref f) ∧ PySem.W.keepIn K (.ref f) = true ∧ Binds K fd ps [] ∧ FnOk P w K mg base CX0 k f fd ps sp
theorem Fn.mono {P : Program} {w : World} {K : PySem.W.Frag} {mg : Str → Option Value} {base : Heap} {j k : Nat} {x : Str} {ps : List Str} {sp : Sp} (F : Fn P w K mg base j x ps sp) (h : j ≤ k) : Fn P w K mg base k x ps sp := by
  obtain ⟨f, fd, m, kp, b, G⟩ := F.ex
  exact ⟨f, fd, m, kp, b, G.mono h⟩
section
variable {X : Cx} {k : Nat} {x : Str} {ps : List Str} {sp : Sp}
theorem pe_fn {e : Expr} {es : List Expr} {p pos : Pos} {t : TA} (F : Fn X.prog X.w X.K X.mg X.base k x ps sp) (hr : Room k X.A) (hg : Gl X x) (ha : PA X (e :: es) t)
    (hdb : (x == ("__debug__" : Str)) = false := by decide) (he : starEach (e :: es) X.env = (false, eval e X.env) :: starEach es X.env := by rfl) (hpl : (backTo pos (starEach es X.env)).any (·.1) = false := by rfl) :
    PE X (.Call (.Name x p) (e :: es) [] pos) (tCall sp [] E0 t) := by
  obtain ⟨f, fd, m, kp, b, G⟩ := F.ex
  exact pe_call G hr hg m kp b .nil pass0 ha hdb he hpl
theorem pe_fn0 {p pos : Pos} (F : Fn X.prog X.w X.K X.mg X.base k x ps sp) (hr : Room k X.A) (hg : Gl X x)
    (hdb : (x == ("__debug__" : Str)) = false := by decide) :
    PE X (.Call (.Name x p) [] [] pos) (tCall sp [] E0 tNil) := by
  obtain ⟨f, fd, m, kp, b, G⟩ := F.ex
  exact pe_call0 G hr hg m kp b .nil pass0 hdb
end

/-! ### what a reading evaluates to, told by a word that stays when the heap grows -/
open Evl
abbrev VH := V → Hp → Prop
def Mono (P : VH) : Prop := ∀ v H H', Ex H H' → P v H → P v H'
def isV (c : V) : VH := fun v _ => v = c
def isL (K : PySem.W.Frag) (xs : List V) : VH := fun v H => ∃ p, v = .ref p ∧ SqL K H p xs
def isT (K : PySem.W.Frag) (xs : List V) : VH := fun v H => ∃ p, v = .ref p ∧ SqT K H p xs
def isD (K : PySem.W.Frag) (d : PyData) : VH := fun v H => Dp K H v d
theorem mono_V {c : V} : Mono (isV c) := fun _ _ _ _ h => h
theorem mono_L {K : PySem.W.Frag} {xs : List V} : Mono (isL K xs) := fun _ _ _ e ⟨p, h, q⟩ => ⟨p, h, ex_l e q⟩
theorem mono_T {K : PySem.W.Frag} {xs : List V} : Mono (isT K xs) := fun _ _ _ e ⟨p, h, q⟩ => ⟨p, h, ex_t e q⟩
mutual
theorem Dp.mono {K : PySem.W.Frag} {H H' : Hp} (e : Ex H H') : ∀ {v : V} {d : PyData}, Dp K H v d → Dp K H' v d
  | _, _, .non => .non
  | _, _, .bl b => .bl b
  | _, _, .int i => .int i
  | _, _, .str x => .str x
  | _, _, .lst a b => .lst (ex_l e a) (DpAll.mono e b)
  | _, _, .tup a b => .tup (ex_t e a) (DpAll.mono e b)
theorem DpAll.mono {K : PySem.W.Frag} {H H' : Hp} (e : Ex H H') : ∀ {vs : List V} {ds : List PyData}, DpAll K H vs ds → DpAll K H' vs ds
  | _, _, .nil => .nil
  | _, _, .cons a b => .cons (Dp.mono e a) (DpAll.mono e b)
end
theorem mono_D {K : PySem.W.Frag} {d : PyData} : Mono (isD K d) := fun _ _ _ e h => Dp.mono e h
def EvP (te : TE) (σ : L2.St) (H : Hp) (P : VH) : Prop := ∀ H1, Ex H H1 → ∀ Q : VK, (∀ v H2, Ex H1 H2 → P v H2 → Q v H2) → te σ H1 Q
def EvAP (ta : TA) (σ : L2.St) (H : Hp) (P : List V → Hp → Prop) : Prop := ∀ H1, Ex H H1 → ∀ Q : List V → Hp → Prop, (∀ vs H2, Ex H1 H2 → P vs H2 → Q vs H2) → ta σ H1 Q
def SpP (sp : Sp) (A : List V → Hp → Prop) (H : Hp) (P : VH) : Prop := ∀ vs H1, Ex H H1 → A vs H1 → ∀ Q : VK, (∀ v H2, Ex H1 H2 → P v H2 → Q v H2) → ∀ E : XK, sp vs H1 Q E
section
variable {K : PySem.W.Frag} {σ : L2.St} {H H' : Hp} {te ta tb : TE} {P P1 : VH} {v : V} {xs : List V} {D : Ends} {tz : TS}
theorem EvP.mono (e : Ex H H') (h : EvP te σ H P) : EvP te σ H' P := fun H1 a Q q => h H1 (e.trans a) Q q
theorem Ev.p (h : Ev te σ H v) : EvP te σ H (isV v) := fun H1 e Q q => h H1 e Q fun H2 e2 => q v H2 e2 rfl
theorem EvP.val (h : EvP te σ H (isV v)) : Ev te σ H v := fun H1 e Q q => h H1 e Q fun w H2 e2 (z : w = v) => by rw [z]; exact q H2 e2
theorem EvL.p (h : EvL te σ H xs) : EvP te σ H (isL K xs) := fun H1 e Q q => h H1 e Q fun p H2 _ e2 hp => q _ H2 e2 ⟨p, rfl, sq_of hp⟩
theorem EvU.p (h : EvU te σ H xs) : EvP te σ H (isT K xs) := fun H1 e Q q => h H1 e Q fun p H2 _ e2 hp => q _ H2 e2 ⟨p, rfl, st_of hp⟩
theorem EvP.imp (h : EvP te σ H P) (i : ∀ v H2, Ex H H2 → P v H2 → P1 v H2) : EvP te σ H P1 := fun H1 e Q q => h H1 e Q fun w H2 e2 z => q w H2 e2 (i w H2 (e.trans e2) z)
theorem ep_var {i : Nat} (h : σ[i]? = some (some v)) (m : Mono P) (hp : P v H) : EvP (tVar i) σ H P := fun H1 e Q q => ⟨v, h, q v H1 (Ex.refl H1) (m _ _ _ e hp)⟩
theorem ap_nil : EvAP tNil σ H (fun vs _ => vs = []) := fun H1 _ _ q => q _ H1 (Ex.refl H1) rfl
def aCons (P : VH) (A : List V → Hp → Prop) : List V → Hp → Prop := fun vs H => ∃ v r, vs = v :: r ∧ P v H ∧ A r H
theorem ap_cons {tr : TA} {A : List V → Hp → Prop} (m : Mono P) (h : EvP te σ H P) (hr : EvAP tr σ H A) : EvAP (tCons te tr) σ H (aCons P A) := fun H1 e _ q =>
  h H1 e _ fun v H2 e2 p => hr H2 (e.trans e2) _ fun r H3 e3 z => q _ H3 (e2.trans e3) ⟨v, r, rfl, m _ _ _ e3 p, z⟩
theorem ep_call {sp : Sp} {E : XK} {t : TA} {A : List V → Hp → Prop} (h : EvAP t σ H A) (hs : SpP sp A H P) : EvP (tCall sp [] E t) σ H P := fun H1 e Q q =>
  h H1 e _ fun vs H2 e2 z => by
    rw [List.append_nil]
    exact hs vs H2 (e.trans e2) z Q (fun v H3 e3 p => q v H3 (e2.trans e3) p) E
theorem ep_ret (h : EvP te σ H P) (k : ∀ v H1, Ex H H1 → P v H1 → D.rt v H1) : tRet te D σ H := h H (Ex.refl H) _ k
theorem qp_asg {i : Nat} (h : EvP te σ H P) (k : ∀ v H1, Ex H H1 → P v H1 → tz D (σ.set i (some v)) H1) : tSeq (tAsg te (gName i)) tz D σ H := h H (Ex.refl H) _ k
theorem sp_asg {i : Nat} (h : EvP te σ H P) (k : ∀ v H1, Ex H H1 → P v H1 → D.nx (σ.set i (some v)) H1) : tAsg te (gName i) D σ H := h H (Ex.refl H) _ k
end

/-! ### readings by names, and their rules -/
def rInt1 : List V → Hp → VK → Prop := fun xs H Q => (∃ i, xs = [.int i] ∧ Q (.int i) H) ∨ ∃ k, xs = [.bl k] ∧ Q (.int (if k then 1 else 0)) H
theorem c_int {X : Cx} : CallR X (.type "int") rInt1 := call_int1
def rAbs : List V → Hp → VK → Prop := fun xs H Q => ∃ i, xs = [.int i] ∧ Q (.int (if i < 0 then -i else i)) H
theorem c_abs {X : Cx} : CallR X (.builtin "abs") rAbs := call_abs
def rStrI : List V → Hp → VK → Prop := fun xs H Q => ∃ i, xs = [.int i] ∧ i.natAbs.log2 < 1920 ∧ Q (.str (toString i)) H
theorem c_str {X : Cx} : CallR X (.type "str") rStrI := call_str_int
theorem c_len {X : Cx} : CallR X (.builtin "len") (rLenS X.K) := call_len_seq
def rAddStr : R2 := fun x y H Q => ∃ i j, x = .str i ∧ y = .str j ∧ i.length + j.length ≤ sizeLine ∧ Q (.str (i ++ j)) H
theorem o_addS {X : Cx} : OpR X (binaryOp .Add) rAddStr := op_add_str
def rAndM : R2 := fun x y H Q => ∃ (i : Int) (k : Nat), x = .int i ∧ y = .int (2 ^ k - 1) ∧ Q (.int (i % 2 ^ k)) H
theorem o_andM {X : Cx} : OpR X (binaryOp .BitAnd) rAndM := op_andM
def CPos (_ j : Int) : Prop := 0 < j
theorem o_mod {X : Cx} : OpR X (binaryOp .Mod) (rI CPos fun i j => .int (i % j)) := op_mod
section
variable {K : PySem.W.Frag} {σ : L2.St} {H : Hp} {te ta tb : TE} {P : VH} {v x y : V} {xs : List V}
theorem ev_int {i : Int} (h : Ev ta σ H (.int i)) : Ev (tCB rInt1 (tCons ta tNil)) σ H (.int i) := fun H1 e Q q => h H1 e _ fun H2 e2 => .inl ⟨i, rfl, q H2 e2⟩
theorem ev_intB {b : Bool} (h : Ev ta σ H (.bl b)) : Ev (tCB rInt1 (tCons ta tNil)) σ H (.int (if b = true then 1 else 0)) := fun H1 e Q q => h H1 e _ fun H2 e2 => .inr ⟨b, rfl, q H2 e2⟩
theorem ev_abs {i : Int} (h : Ev ta σ H (.int i)) : Ev (tCB rAbs (tCons ta tNil)) σ H (.int (if i < 0 then -i else i)) := fun H1 e Q q => h H1 e _ fun H2 e2 => ⟨i, rfl, q H2 e2⟩
theorem ev_str {i : Int} (h : Ev ta σ H (.int i)) (hz : i.natAbs.log2 < 1920) : Ev (tCB rStrI (tCons ta tNil)) σ H (.str (toString i)) := fun H1 e Q q => h H1 e _ fun H2 e2 => ⟨i, rfl, hz, q H2 e2⟩
theorem ev_lenT {p : Addr} (h : Ev ta σ H (.ref p)) (hs : SqT K H p xs) : Ev (tCB (rLenS K) (tCons ta tNil)) σ H (.int (xs.length : Int)) := fun H1 e Q q =>
  h H1 e _ fun H2 e2 => ⟨p, xs, rfl, Or.inr (ex_t (e.trans e2) hs), q H2 e2⟩
theorem rv_addS {i j : Str} (hz : i.length + j.length ≤ sizeLine) : RV rAddStr (.str i) (.str j) H (.str (i ++ j)) := fun H1 _ _ q => ⟨i, j, rfl, rfl, hz, q H1 (Ex.refl H1)⟩
theorem rv_and1 {i : Int} : RV rAndM (.int i) (.int 1) H (.int (i % 2)) := fun H1 _ _ q => ⟨i, 1, rfl, rfl, q H1 (Ex.refl H1)⟩
theorem ev_ixL {p : Addr} {i : Int} (h : Ev ta σ H (.ref p)) (hi : Ev tb σ H (.int i)) (hs : SqL K H p xs) (ha : atI xs i = some v) : Ev (tOp (rIxL K) ta tb) σ H v := ev_op h hi (rv_ixL hs ha)
theorem ev_ixT {p : Addr} {i : Int} (h : Ev ta σ H (.ref p)) (hi : Ev tb σ H (.int i)) (hs : SqT K H p xs) (ha : atI xs i = some v) : Ev (tOp (rIxT K) ta tb) σ H v := ev_op h hi (rv_ixT hs ha)
/-- an item of a list that was just made -/
theorem ev_ixN {i : Int} (h : EvL ta σ H xs) (hi : ∀ H1, Ex H H1 → Ev tb σ H1 (.int i)) (ha : atI xs i = some v) : Ev (tOp (rIxL K) ta tb) σ H v := ev_opL1 h hi fun _ _ hp _ => rv_ixL (sq_of hp) ha
end
theorem isi1 {X : Cx} : CallR X (.builtin "isinstance") (rIsi X.K) := call_isi
/-! ### rules whose reading names the written part: for a comprehension's block -/
theorem ixL_K {X : Cx} (K : PySem.W.Frag) (h : X.K = K) : IxR X (rIxL K) := by subst h; exact ix_list
theorem ixT_K {X : Cx} (K : PySem.W.Frag) (h : X.K = K) : IxR X (rIxT K) := by subst h; exact ix_tup
theorem catL_K {X : Cx} (K : PySem.W.Frag) (h : X.K = K) : OpR X (binaryOp .Add) (rCatL K) := by subst h; exact op_catL
theorem inS_K {X : Cx} (K : PySem.W.Frag) (h : X.K = K) : OpR X (compareOp .In) (rIn K false) := by subst h; exact op_in_seq
theorem nInS_K {X : Cx} (K : PySem.W.Frag) (h : X.K = K) : OpR X (compareOp .NotIn) (rIn K true) := by subst h; exact op_notIn_seq
theorem len_K {X : Cx} (K : PySem.W.Frag) (h : X.K = K) : CallR X (.builtin "len") (rLenS K) := by subst h; exact c_len
theorem isi_K {X : Cx} (K : PySem.W.Frag) (h : X.K = K) : CallR X (.builtin "isinstance") (rIsi K) := by subst h; exact call_isi
theorem slL_K {X : Cx} (K : PySem.W.Frag) (h : X.K = K) : SlR X (rSlL K) := by subst h; exact sl_list
theorem slT_K {X : Cx} (K : PySem.W.Frag) (h : X.K = K) : SlR X (rSlT K) := by subst h; exact sl_tup
end SB

set_option Elab.async false
set_option linter.all false
set_option maxRecDepth 100000
namespace SB
open PySem L2 Evl
/-! ### more readings -/
theorem typ_int {K : PySem.W.Frag} {H : Hp} {i : Int} : TyX K H (.int i) (.type "int") := .base (.int i)
theorem ty_ref {K : PySem.W.Frag} {H : Hp} {a : Addr} {xs : List V} (h : SqT K H a xs) : TyX K H (.ref a) (.type "tuple") := by
  rcases h with (h | ⟨o, h⟩) | ⟨o, its, n, lk, c, _⟩
  · exact .base (.tup h)
  · exact .fTuple h
  · exact .kTuple lk c
section
variable {K : PySem.W.Frag} {σ : L2.St} {H : Hp} {te ta tb td ty : TE} {P : VH} {v x y : V} {xs ys : List V} {tt : TT} {tl th : TO} {D : Ends} {tz : TS}
theorem ev_isi {m n : String} {b : Bool} (h : Ev ta σ H x) (t : ∀ H1, Evl.Ex H H1 → TyX K H1 x (.type m)) (k : kitB m n = some b) : Ev (tCB (rIsi K) (tCons ta (tCons (tC (.ty n)) tNil))) σ H (.bl b) := fun H1 e Q q =>
  h H1 e _ fun H2 e2 => ⟨x, .ty n, .type m, .type n, b, rfl, .ty n, t H2 (e.trans e2), kit_ty k, q H2 e2⟩
theorem ev_dget {a : Addr} {kvs : List (Key × V)} {k : Key} (h : Ev td σ H (.ref a)) (hk : Ev ty σ H (kV k)) (hd : H a = some (.dK kvs)) (hv : valV kvs k = some v) : Ev (tDGet td ty) σ H v := fun H1 e Q q =>
  h H1 e _ fun H2 e2 => hk H2 (e.trans e2) _ fun H3 e3 => ⟨a, v, rfl, by rw [← hv]; exact DGet.k (((e.trans e2).trans e3) _ _ hd), q H3 (e2.trans e3)⟩
theorem eu_slT {a : Addr} {lo hi : Option Int} (h : Ev te σ H (.ref a)) (h1 : EvO tl σ H lo) (h2 : EvO th σ H hi) (hs : SqT K H a xs) (hn : ¬ (HT.sIx xs.length 0 lo = 0 ∧ HT.sIx xs.length xs.length hi = xs.length)) : EvU (tSl (rSlT K) te tl th) σ H (cutV xs lo hi) := fun H1 e _ q =>
  h H1 e _ fun H2 e2 => h1 H2 (e.trans e2) _ fun H3 e3 => h2 H3 ((e.trans e2).trans e3) _ fun H4 e4 =>
    ⟨a, xs, rfl, ex_t (((e.trans e2).trans e3).trans e4) hs, hn, fun p hp => q p _ (fresh_back ((e2.trans e3).trans e4) hp) (((e2.trans e3).trans e4).trans (Evl.Ex.new hp)) upd_same⟩
/-- a comprehension over a new tuple -/
theorem el_lcNU {xs : List V} {tl : TE} {j : Nat} {vs : List Nat} {t : TT} (f : Nat → Bool) (v : Nat → V) (h : EvU tl σ H xs) (hz : xs.length ≤ 40000) (hw : ∀ x, wipe ((wipe σ vs).set j (some x)) vs = wipe σ vs)
    (ht : ∀ (i : Nat) (x : V) H1, Evl.Ex H H1 → xs[i]? = some x → EvT t ((wipe σ vs).set j (some x)) H1 (f i)) (he : ∀ (i : Nat) (x : V) H1, Evl.Ex H H1 → xs[i]? = some x → f i = true → Ev te ((wipe σ vs).set j (some x)) H1 (v i)) :
    EvL (tLc (iTup K tl) (gName j) t te vs) σ H (given xs.length f v) := fun H0 e Q q => h H0 e _ fun a H1 ha e1 hx => ⟨a, rfl, ⟨xs, st_of hx⟩, fun Dl hD =>
  lc_tup (xs := xs) (Cw H1 f v Dl) ⟨hD, Evl.Ex.new hD, upd_same⟩ (fun i H' _ p => st_of (p.2.1 a _ hx)) (fun i x H' hi p => ⟨hw x, cw_turn p (by have := (List.getElem?_eq_some_iff.mp hi).1; omega) (ht i x H1 (e.trans e1) hi) (fun hf => he i x H1 (e.trans e1) hi hf)⟩)
    (fun H' p => q Dl H' (fresh_back e1 p.1) (e1.trans p.2.1) p.2.2)⟩
theorem q_unl2 {i j l : Nat} {p : Addr} (hv : σ[i]? = some (some (.ref p))) (hs : SqL K H p [x, y]) (k : tz D ((σ.set j (some x)).set l (some y)) H) : tSeq (tAsg (tVar i) (gUnl K 2 (gCons (gName j) (gCons (gName l) gNil)))) tz D σ H :=
  ⟨_, hv, p, [x, y], rfl, hs, rfl, x, [y], rfl, y, [], rfl, rfl, k⟩
theorem m_yes {s : Str} {tb : TS} {tr : V → TS} (h : tb D σ H) : tVal s tb tr (.str s) D σ H := ⟨rfl, by rw [decide_eq_true rfl]; exact iteT h⟩
theorem m_no {s z : Str} {tb : TS} {tr : V → TS} (n : z ≠ s) (h : tr (.str z) D σ H) : tVal s tb tr (.str z) D σ H := ⟨rfl, by
  rw [decide_eq_false (fun e => n (V.str.inj e))]
  exact iteF h⟩
theorem q_match {tc : V → TS} (h : Ev te σ H v) (k : ∀ H1, Evl.Ex H H1 → tc v { D with nx := tz D } σ H1) : tSeq (tMatch te tc) tz D σ H := h H (Evl.Ex.refl H) _ k
def EvPr (trs : List (TE × TE)) (σ : L2.St) (H : Hp) (kvs : List (Key × V)) : Prop := ∀ H1, Evl.Ex H H1 → ∀ Q : List (V × V) → Hp → Prop, (∀ H2, Evl.Ex H1 H2 → Q (kvs.map fun kv => (kV kv.1, kv.2)) H2) → tPairs trs σ H1 Q
theorem pr_nil : EvPr [] σ H [] := fun H1 _ _ q => q H1 (Evl.Ex.refl H1)
theorem pr_cons {trs : List (TE × TE)} {kvs : List (Key × V)} {k : Key} (hk : Ev ta σ H (kV k)) (hv : Ev tb σ H v) (hr : EvPr trs σ H kvs) : EvPr ((ta, tb) :: trs) σ H ((k, v) :: kvs) := fun H1 e _ q =>
  hk H1 e _ fun H2 e2 => hv H2 (e.trans e2) _ fun H3 e3 => hr H3 ((e.trans e2).trans e3) _ fun H4 e4 => q H4 ((e2.trans e3).trans e4)
theorem ev_dispGet {trs : List (TE × TE)} {kvs : List (Key × V)} {k : Key} (hp : EvPr trs σ H kvs) (hk : ∀ H1, Evl.Ex H H1 → Ev ty σ H1 (kV k)) (hl : kvs.length ≤ 15) (hv : valV (mergeK [] kvs) k = some v) : Ev (tDGet (tDisp trs) ty) σ H v := fun H1 e Q q p hp0 =>
  hp _ (e.trans (Evl.Ex.new hp0)) _ fun H2 e2 => ⟨e2 _ _ upd_same, kvs, rfl, hl, by
    have E1 : Evl.Ex H1 (upd H2 p (.dK (mergeK [] kvs))) := Evl.Ex.mut ((Evl.Ex.new hp0).trans e2) hp0
    refine hk _ (e.trans E1) _ (Evl.Ex.refl _) _ fun H3 e3 => ⟨p, v, rfl, by rw [← hv]; exact DGet.k (e3 _ _ upd_same), q H3 (E1.trans e3)⟩⟩
end
def isDct (kvs : List (Key × V)) : VH := fun v H => ∃ p, v = .ref p ∧ H p = some (.dK kvs)
theorem mono_Dct {kvs : List (Key × V)} : Mono (isDct kvs) := fun _ _ _ e ⟨p, h, q⟩ => ⟨p, h, e _ _ q⟩
/-! ### dicts -/
def rDictD : List V → Hp → VK → Prop := fun xs H Q => ∃ (a : Addr) (kvs : List (Key × V)), xs = [.ref a] ∧ Rd H a (.dK kvs) ∧ ∀ p, H p = none → Q (.ref p) (upd H p (.dK kvs))
theorem c_dictD {X : Cx} : CallR X (.type "dict") rDictD := call_dictD
section
variable {K : PySem.W.Frag} {σ : L2.St} {H : Hp} {te ta tb tc td ty tv : TE} {P : VH} {v x y : V} {xs ys : List V} {tt : TT} {D : Ends} {tz : TS} {i : Nat} {a : Addr} {kvs : List (Key × V)} {k : Key}
theorem q_asgD (h : ∀ p H1, H p = none → Evl.Ex H H1 → H1 p = some (.dK []) → tz D (σ.set i (some (.ref p))) H1) : tSeq (tAsg tDNewK (gName i)) tz D σ H := fun p hp => h p _ hp (Evl.Ex.new hp) upd_same
theorem q_dput (hv : Ev tv σ H v) (hd : Ev td σ H (.ref a)) (hk : Ev ty σ H (kV k)) (e : H a = some (.dK kvs)) (hl : kvs.length < 100000) (h : ∀ H1, Evl.Ex H H1 → tz D σ (upd H1 a (.dK (putK kvs k v)))) : tSeq (sDPut td ty tv) tz D σ H :=
  hv H (Evl.Ex.refl H) _ fun H1 e1 => hd H1 e1 _ fun H2 e2 => hk H2 (e1.trans e2) _ fun H3 e3 => ⟨a, _, rfl, DPut.k (((e1.trans e2).trans e3) _ _ e) (sz_lt hl), h H3 ((e1.trans e2).trans e3)⟩
theorem s_dput (hv : Ev tv σ H v) (hd : Ev td σ H (.ref a)) (hk : Ev ty σ H (kV k)) (e : H a = some (.dK kvs)) (hl : kvs.length < 100000) (h : ∀ H1, Evl.Ex H H1 → D.nx σ (upd H1 a (.dK (putK kvs k v)))) : sDPut td ty tv D σ H :=
  hv H (Evl.Ex.refl H) _ fun H1 e1 => hd H1 e1 _ fun H2 e2 => hk H2 (e1.trans e2) _ fun H3 e3 => ⟨a, _, rfl, DPut.k (((e1.trans e2).trans e3) _ _ e) (sz_lt hl), h H3 ((e1.trans e2).trans e3)⟩
theorem q_dictD (h : Ev ta σ H (.ref a)) (e : H a = some (.dK kvs)) (q : ∀ p H1, H p = none → Evl.Ex H H1 → H1 p = some (.dK kvs) → tz D (σ.set i (some (.ref p))) H1) : tSeq (tAsg (tCB rDictD (tCons ta tNil)) (gName i)) tz D σ H :=
  h H (Evl.Ex.refl H) _ fun H1 e1 => ⟨a, kvs, rfl, Rd.of (e1 _ _ e), fun p hp => q p _ (fresh_back e1 hp) (e1.trans (Evl.Ex.new hp)) upd_same⟩
theorem ev_chain {r r' : R2} {b b' : Bool} {z : V} (ha : Ev ta σ H x) (hb : Ev tb σ H y) (hr : RV r x y H (.bl b)) (hc : b = true → Ev tc σ H z) (hr' : b = true → RV r' y z H (.bl b')) : Ev (tChain r r' ta tb tc) σ H (.bl (b && b')) := fun H1 e Q q =>
  ha H1 e _ fun H2 e2 => hb H2 (e.trans e2) _ fun H3 e3 => hr H3 ((e.trans e2).trans e3) _ fun H4 e4 => ⟨b, rfl, by
    have E4 := ((e.trans e2).trans e3).trans e4
    cases b with
    | true =>
      show tc σ H4 _
      exact hc rfl H4 E4 _ fun H5 e5 => hr' rfl H5 (E4.trans e5) _ fun H6 e6 => q H6 ((((e2.trans e3).trans e4).trans e5).trans e6)
    | false =>
      show Q (.bl false) H4
      exact q H4 ((e2.trans e3).trans e4)⟩
theorem rv_neD {a b : Addr} {kvs : List (Key × V)} (ha : H a = some (.dK kvs)) (hb : H b = some (.dK kvs)) (h : ∀ p ∈ kvs, valV kvs p.1 = some p.2 ∧ flatB p.2 = true) : RV rNeDA (.ref a) (.ref b) H (.bl false) := fun H1 e _ q =>
  ⟨a, b, kvs, kvs, rfl, rfl, e _ _ ha, e _ _ hb, rfl, h, q H1 (Evl.Ex.refl H1)⟩
end
theorem valV_mem : ∀ {kvs : List (Key × V)}, (kvs.map (·.1)).Nodup → ∀ {p : Key × V}, p ∈ kvs → valV kvs p.1 = some p.2
  | [], _, _, h => by cases h
  | q :: r, nd, p, h => by
    rw [List.map_cons, List.nodup_cons] at nd
    rcases List.mem_cons.mp h with rfl | h
    · exact valV_pos rfl
    · rw [valV_neg (fun e => nd.1 (by rw [e]; exact List.mem_map.mpr ⟨p, h, rfl⟩))]
      exact valV_mem nd.2 h
theorem valV_none {kvs : List (Key × V)} {k : Key} (h : k ∉ kvs.map (·.1)) : valV kvs k = none := by
  cases e : valV kvs k with
  | none => rfl
  | some v => exact absurd (valV_in e) h
theorem put_again {kvs : List (Key × V)} {k : Key} {a b : V} (h : k ∉ kvs.map (·.1)) : putK (kvs ++ [(k, a)]) k b = kvs ++ [(k, b)] := by
  unfold putK
  rw [if_pos (by rw [List.any_append]; simp), List.map_append]
  have e : kvs.map (fun kv => if kv.1 = k then (kv.1, b) else kv) = kvs := by
    have e0 : kvs.map (fun kv => if kv.1 = k then (kv.1, b) else kv) = kvs.map id := List.map_congr_left fun p hp => by
      have n : ¬ p.1 = k := fun e => h (by rw [← e]; exact List.mem_map.mpr ⟨p, hp, rfl⟩)
      show (if p.1 = k then (p.1, b) else p) = p
      rw [if_neg n]
    rw [e0, List.map_id]
  rw [e]
  simp
theorem eqI (x y : Int) : decide (V.int x = V.int y) = decide (x = y) := by
  rw [Bool.eq_iff_iff, decide_eq_true_eq, decide_eq_true_eq]
  exact ⟨fun h => by injection h, fun h => congrArg V.int h⟩
theorem eqS (x y : Str) : decide (V.str x = V.str y) = decide (x = y) := by
  rw [Bool.eq_iff_iff, decide_eq_true_eq, decide_eq_true_eq]
  exact ⟨fun h => by injection h, fun h => congrArg V.str h⟩
end SB

set_option Elab.async false
set_option linter.all false
set_option maxRecDepth 100000
namespace SB
open PySem L2 Evl
/-! ### str * int -/
def repS (x : Str) (n : Nat) : Str := ⟨(List.replicate n x.cps).foldl (· ++ ·) #[]⟩
theorem repS0 (x : Str) : repS x 0 = Str.empty := rfl
theorem repS1 (x : Str) : repS x 1 = x := by
  unfold repS
  show (⟨#[] ++ x.cps⟩ : Str) = x
  rw [Array.empty_append]
theorem repS_len (x : Str) (n : Nat) : (repS x n).length = x.length * n := by
  have key : ∀ (n : Nat) (acc : Array Nat), ((List.replicate n x.cps).foldl (· ++ ·) acc).size = acc.size + x.cps.size * n := fun n => by
    induction n with
    | zero => intro acc; show acc.size = acc.size + _; rw [Nat.mul_zero, Nat.add_zero]
    | succ n ih =>
      intro acc
      rw [List.replicate_succ, List.foldl_cons, ih, Array.size_append, Nat.mul_succ]
      omega
  show ((List.replicate n x.cps).foldl (· ++ ·) #[]).size = x.cps.size * n
  rw [key]
  exact Nat.zero_add _
def rMulS : R2 := fun x y H Q => ∃ (a : Str) (n : Nat), x = .str a ∧ y = .int n ∧ 0 < a.length ∧ a.length * n ≤ 16777216 ∧ n < 100000 ∧ Q (.str (repS a n)) H
theorem op_mulS {X : Cx} : OpR X (binaryOp .Mult) rMulS := by
  intro pins s σ H x y v u Q I rx ry h
  obtain ⟨a, n, rfl, rfl, ha, hz, hn, q⟩ := h
  obtain ⟨t, rfl⟩ := rx
  obtain ⟨t', rfl⟩ := ry
  refine PySem.P.mul_str (by rw [decide_eq_false (by omega), decide_eq_false (by omega)]; rfl) (fun h1 h2 h3 => ?_) (fun h1 h2 => ?_) ?_
  · have h4 : (16777216 : Int) ≤ (2 ^ 63 - 1) / (n : Int) := Int.le_ediv_of_mul_le (by omega) (by omega)
    have h5 : a.length ≤ a.length * n := Nat.le_mul_of_pos_right _ (by omega)
    omega
  · rw [Int.toNat_natCast]
    exact decide_eq_false (Nat.not_lt.mpr hz)
  · split
    · have e : n = 0 := by omega
      subst e
      rw [repS0] at q
      exact ⟨Nat.zero_le _, .str Str.empty, H, I.tok _, ⟨_, rfl⟩, q⟩
    · split
      · rename_i h1 h2
        have e : n = 1 := by
          have hl : (a.length == 0) = false := by rw [beq_eq_false_iff_ne]; omega
          rw [hl, Bool.or_false, beq_iff_eq] at h2
          omega
        subst e
        rw [repS1] at q
        exact ⟨.str a, H, I, ⟨_, rfl⟩, q⟩
      · rw [Int.toNat_natCast]
        exact ⟨by rw [show (⟨(List.replicate n a.cps).foldl (· ++ ·) #[]⟩ : Str) = repS a n from rfl, repS_len]; exact hz, .str (repS a n), H, I.tok _, ⟨_, rfl⟩, q⟩
/-! ### one reading or another -/
theorem pi_or {X : Cx} {tg e : Expr} {t1 t2 : TI} (h1 : PI X tg e t1) (h2 : PI X tg e t2) : PI X tg e (fun σ H R => t1 σ H R ∨ t2 σ H R) := ⟨fun pins s σ H R I h => h.elim (h1.run pins s σ H R I) (h2.run pins s σ H R I)⟩
def rStrD : List V → Hp → VK → Prop := fun xs H Q => (∃ i, xs = [.int i] ∧ i.natAbs.log2 < 1920 ∧ Q (.str (toString i)) H) ∨ ∃ a, xs = [.str a] ∧ Q (.str a) H
end SB

set_option Elab.async false
set_option linter.all false
set_option maxRecDepth 100000
namespace SB
open PySem L2 Evl
/-! ### case ['word', a, b, ..]: a tuple by its first word -/
def setAll : L2.St → List Nat → List V → L2.St
  | σ, i :: is, v :: vs => setAll (σ.set i (some v)) is vs
  | σ, _, _ => σ
inductive Caps (X : Cx) : List Pattern → List Nat → List Str → Prop where
  | nil : Caps X [] [] []
  | cons {i : Nat} {x : Str} {pos : Pos} {ps : List Pattern} {is : List Nat} {xs : List Str} (hi : X.N[i]? = some x) (hx : Loc X.env.scope x) (hf : X.fn x = true ∨ X.env.scope.names.lookup x = some .local) (r : Caps X ps is xs) : Caps X (.MatchAs none (some x) pos :: ps) (i :: is) (x :: xs)
section
variable {X : Cx} {ps : List Pattern} {is : List Nat} {xs : List Str}
theorem Caps.len (h : Caps X ps is xs) : ps.length = is.length ∧ xs.length = is.length := by
  induction h with
  | nil => exact ⟨rfl, rfl⟩
  | cons _ _ _ _ ih => exact ⟨congrArg (· + 1) ih.1, congrArg (· + 1) ih.2⟩
theorem caps_match (h : Caps X ps is xs) : ∀ {us : List Value} {s : Shared} {Q : Option (List (Str × Value)) → Shared → Prop}, us.length = ps.length → Q (some (xs.zip us)) s → wpAny (model X.prog X.w) X.A (matchEach ps X.env us) Q X.xe s := by
  induction h with
  | nil =>
    intro us s Q hl q
    cases us with
    | nil => exact wpAny_matchEach_nil q
    | cons _ _ => cases hl
  | cons hi hx hf r ih =>
    intro us s Q hl q
    cases us with
    | nil => cases hl
    | cons u us =>
      refine wpAny_matchEach_cons (wpAny_matchPattern_Capture (ih (Nat.succ.inj hl) q))
theorem caps_bind (hN : X.N.Nodup) (h : Caps X ps is xs) : ∀ {us : List Value} {vs : List V} {pins : List (Addr × Obj)} {σ : L2.St} {H : Hp} {s : Shared} {Q : Unit → Shared → Prop}, Inv X pins σ H s → Vals vs us → vs.length = is.length → (∀ s', Inv X pins (setAll σ is vs) H s' → Q () s') →
    wpAny (model X.prog X.w) X.A (assignInOrder ((xs.zip us).map fun (n, _) => bindName X.env n) ((xs.zip us).map (·.2))) Q X.xe s := by
  induction h with
  | nil =>
    intro us vs pins σ H s Q I r hl k
    cases vs with
    | nil => exact wpAny_assignInOrder_none (k s I)
    | cons _ _ => cases hl
  | cons hi hx hf r0 ih =>
    intro us vs pins σ H s Q I r hl k
    cases r with
    | nil => cases hl
    | cons r1 r2 => exact wpAny_assignInOrder_more (wpAny_bindName (store_ok I hN hi hx r1 (fun s' I' => ih I' r2 (Nat.succ.inj hl) k) hf))
def tSeqP (K : PySem.W.Frag) (y : Str) (is : List Nat) (tb : TS) (tr : V → TS) : V → TS := fun v D σ H => ∃ a xs, v = .ref a ∧ SqT K H a xs ∧
  (xs.length ≠ is.length + 1 ∧ tr v D σ H ∨ ∃ x0 r, xs = x0 :: r ∧ r.length = is.length ∧ scal x0 (.str y) = true ∧ if decide (x0 = .str y) = true then tb D (setAll σ is r) H else tr v D σ H)
theorem pc_seq {y : Str} {j : Nat} {p p2 ppos : Pos} {body : List Stmt} {rest : List MatchCase} {tb : TS} {tr : V → TS} (hc : X.calm = true) (hN : X.N.Nodup) (hcap : Caps X ps is xs) (hb : PSs X body tb) (hr : PCs X rest tr)
    (hstar : (Pattern.MatchValue (.Constant (.str y) j p) p2 :: ps).findIdx? (·.isStar) = none := by rfl) (hwild : ((Pattern.MatchValue (.Constant (.str y) j p) p2 :: ps).all fun p => p.isWildcard || (p.isStar && p.names.isEmpty)) = false := by rfl) :
    PCs X (⟨.MatchSequence (.MatchValue (.Constant (.str y) j p) p2 :: ps) ppos, none, body⟩ :: rest) (tSeqP X.K y is tb tr) := by
  refine ⟨fun first pins s σ H v u D I rv h => ?_⟩
  obtain ⟨a, vs, rfl, hq, h⟩ := h
  cases rv
  obtain ⟨its, r, ht, hz⟩ := I.tuple hq
  have hlen := r.length
  have hcl := hcap.len
  have hT : s.TypeIs (.ref a) "tuple" := by
    obtain ⟨o, e, c, _⟩ := ht
    exact ⟨o, e, c⟩
  have hz2 : (its.toArray.size : Int) < 2 ^ 63 := by
    have h1 : its.toArray.size = its.length := List.size_toArray
    have h2 : vs.length ≤ 16777216 := hz
    omega
  have hs1 : its.toArray.size = its.length := List.size_toArray
  refine wpAny_matchCases_cons (wpAny_matchPattern_Sequence (wpAny_collectionFlag hT flag_seq_tuple ?_) hstar hwild)
  rw [if_pos rfl]
  refine PyProof.Rows.pyLen_tuple ht hz2 ?_
  have I2 : Inv X pins σ H { s with toks := s.toks + 1 + 1 } := I.tok _
  rcases h with ⟨hn, h⟩ | ⟨x0, rr, rfl, hrl, hs, h⟩
  · rw [if_pos (by rw [bne_iff_ne]; show (its.toArray.size : Int) ≠ ((ps.length + 1 : Nat) : Int); omega)]
    exact hr.run false pins _ σ H (.ref a) _ D I2 rfl h
  · rw [List.length_cons] at hlen
    rw [if_neg (by rw [bne_iff_ne, Classical.not_not]; show (its.toArray.size : Int) = ((ps.length + 1 : Nat) : Int); omega)]
    have hps : (Pattern.MatchValue (.Constant (.str y) j p) p2 :: ps).length = its.toArray.size := by show ps.length + 1 = _; omega
    rw [hps]
    refine PyProof.Rows.unpackItems_tuple (I.ok.hd hc) ht fun h' hx => ?_
    have I3 : Inv X pins σ H { s with toks := s.toks + 1 + 1, heap := h' } := I2.kept (t' := s.toks + 1 + 1) fun b o e => hx b o (Nat.ne_of_lt (Heap.lt_size e)) e
    cases r with
    | cons r1 r2 =>
      rename_i u0 us
      refine wpAny_matchEach_cons (wpAny_matchPattern_Value (thn ((pe_str (X := X) (x := y) (j := j) (pos := p)).run pins _ σ H (fun z H' => z = .str y ∧ H' = H) I3 ⟨rfl, rfl⟩) fun w' s1 ⟨z, H1, I1, rz, ez, eH⟩ => ?_))
      subst ez
      subst eH
      refine thn (op_eq (X := X) pins s1 σ H1 x0 (.str y) u0 w' (fun z H' => z = .bl (decide (x0 = .str y)) ∧ H' = H1) I1 r1 rz ⟨hs, rfl, rfl⟩) fun c s2 ⟨z, H2, I4, rc, ez, eH⟩ => ?_
      subst ez
      subst eH
      cases rc
      refine wpAny_truthy_bool ?_
      cases hd : decide (x0 = V.str y) with
      | true =>
        rw [hd] at h
        refine caps_match hcap (by have := r2.length; omega) ?_
        exact caps_bind hN hcap I4 r2 hrl fun s5 I5 => hb.run pins s5 _ H2 D I5 h
      | false =>
        rw [hd] at h
        exact hr.run false pins s2 σ H2 (.ref a) _ D I4 rfl h
end
end SB

set_option Elab.async false
set_option linter.all false
set_option maxRecDepth 100000
namespace SB
open PySem L2 Evl
def rIsBX : R2 := fun x y H Q => ∃ b : Bool, y = .bl b ∧ (∀ n, x ≠ .ty n) ∧ Q (.bl (decide (x = .bl b))) H
theorem op_isBX {X : Cx} : OpR X (compareOp .Is) rIsBX := by
  intro pins s σ H x y v u Q I rx ry h
  obtain ⟨b, rfl, nt, q⟩ := h
  cases (show u = Value.bool b from ry)
  cases x with
  | bl a =>
    cases (show v = Value.bool a from rx)
    by_cases e : a = b
    · subst e
      exact wpAny_is_self rfl ⟨.bl true, H, I, rfl, by simpa using q⟩
    · exact wpAny_is_other rfl (fun z => e (Value.bool.inj z)) ⟨.bl false, H, I, rfl, by rw [decide_eq_false (fun z => e (V.bl.inj z))] at q; exact q⟩
  | non =>
    cases (show v = Value.none from rx)
    exact wpAny_is_other rfl (by intro z; cases z) ⟨.bl false, H, I, rfl, q⟩
  | int i =>
    obtain ⟨t, rfl⟩ := (show ∃ t, v = Value.int i t from rx)
    exact wpAny_is_other rfl (by intro z; cases z) ⟨.bl false, H, I, rfl, q⟩
  | str i =>
    obtain ⟨t, rfl⟩ := (show ∃ t, v = Value.str i t from rx)
    exact wpAny_is_other rfl (by intro z; cases z) ⟨.bl false, H, I, rfl, q⟩
  | byt i =>
    obtain ⟨t, rfl⟩ := (show ∃ t, v = Value.bytes i t from rx)
    exact wpAny_is_other rfl (by intro z; cases z) ⟨.bl false, H, I, rfl, q⟩
  | flt i =>
    obtain ⟨t, rfl⟩ := (show ∃ t, v = Value.float i t from rx)
    exact wpAny_is_other rfl (by intro z; cases z) ⟨.bl false, H, I, rfl, q⟩
  | ref a =>
    cases (show v = Value.ref a from rx)
    exact wpAny_is_other rfl (by intro z; cases z) ⟨.bl false, H, I, rfl, q⟩
  | ty n => exact absurd rfl (nt n)
theorem c_strD {X : Cx} : CallR X (.type "str") rStrD := by
  intro pins s σ H vs us Q I r h
  rcases h with h | h
  · exact call_str_int pins s σ H vs us Q I r h
  · exact SkE.call_str_str pins s σ H vs us Q I r h
section
variable {K : PySem.W.Frag} {σ : L2.St} {H : Hp} {te ta tb : TE} {x v : V} {D : Ends} {tz : TS} {P : VH} {d : PyData}
theorem rv_isBX {b : Bool} (nt : ∀ n, x ≠ .ty n) : RV rIsBX x (.bl b) H (.bl (decide (x = .bl b))) := fun H1 _ _ q => ⟨b, rfl, nt, q H1 (Evl.Ex.refl H1)⟩
theorem dp_notTy (h : Dp K H v d) : ∀ n, v ≠ .ty n := fun n => by cases h <;> (intro z; cases z)
theorem ty_refL {a : Addr} {xs : List V} (h : SqL K H a xs) : TyX K H (.ref a) (.type "list") := by
  rcases h with (h | ⟨o, h⟩) | ⟨o, its, n, lk, c, _⟩
  · exact .base (.lst h)
  · exact .base (.frz h)
  · exact .kList lk c
theorem ev_isi2 {m : String} {n1 n2 : String} {b1 b2 : Bool} (h : Ev ta σ H x) (t : ∀ H1, Evl.Ex H H1 → TyX K H1 x (.type m)) (k1 : kitB m n1 = some b1) (k2 : b1 = false → kitB m n2 = some b2) :
    Ev (tCB (rIsiT K) (tCons ta (tCons (tTup (tCons (tC (.ty n1)) (tCons (tC (.ty n2)) tNil))) tNil))) σ H (.bl (b1 || b2)) := fun H1 e Q q =>
  h H1 e _ fun H2 e2 => ⟨Nat.le_of_ble_eq_true rfl, fun p hp => by
    have e3 : Evl.Ex H2 (upd H2 p (.tup [.ty n1, .ty n2])) := Evl.Ex.new hp
    refine ⟨x, p, [.ty n1, .ty n2], .type m, [.type n1, .type n2], b1 || b2, rfl, upd_same, .cons (.ty n1) (.cons (.ty n2) .nil), t _ ((e.trans e2).trans e3), ?_, q _ (e2.trans e3)⟩
    refine kitAny_cons (kit_ty k1) (fun hb => ?_) (fun hb => by rw [hb]; rfl)
    rw [hb, Bool.false_or]
    exact kitAny_cons (kit_ty (k2 hb)) (fun hb2 => by rw [hb2]; exact kitAny_nil) (fun hb2 => hb2)⟩
end
end SB

set_option Elab.async false
set_option linter.all false
set_option maxRecDepth 100000
namespace SB
open PySem PySem.Spec PyProof.Rows L2
/-! ### a law that shows what it made (repr): its own call, at the caller alone, where no repr is under way -/
/-- what the law's def does when the claim's caller calls it -/
def Here (P : Program) (w : World) (K : PySem.W.Frag) (mg : Str → Option Value) (base : Heap) (k : Nat) (f : Addr) (fd : FuncData) (x : Str) (sp : Sp) : Prop :=
  ∀ (s : Shared) (H : Hp) (u : Value) (v : V) (Q : VK) (E : XK), Room k callerA → Env0 P w K mg base callerA [] s H → BindsTo s fd ⟨[u], []⟩ [(x, u)] → RelV v u → sp [v] H Q E →
    codeAny (model P w) callerA (.call (.ref f) ⟨[u], []⟩) (CR CX0 [] P w H s Q E) s
theorem here_of {P : Program} {w : World} {K : PySem.W.Frag} {mg : Str → Option Value} {base : Heap} {k : Nat} {f : Addr} {fd : FuncData} {x nm qual : Str} {st : Stmt} {N : List Str} {sp : Sp} (F : Fun K nm qual st f fd) (S : FnScope N [x] (defScope st))
    (body : ∀ (cdv : Value) (s : Shared) (H : Hp) (v : V) (Q : VK) (E : XK), Room k (callerA.deeper (envOfC qual (defScope st) s.heap.objs.size f cdv)) → sp [v] H Q E →
      ∃ t, PSs (cxOf CX0 P w K mg base N qual (defScope st) f cdv callerA [] s H E).nox (defBody st) t ∧ t { nx := fun _ H' => Q .non H', rt := Q } (start N [v]) H) : Here P w K mg base (k + 1) f fd x sp := by
  intro s H u v Q E hr e0 hb rv hsp
  obtain ⟨oc, od, kV, doc, pm, an, cdv, ct, osl, rfl, lk, hcd⟩ := F.ex
  have up : ∀ b o, base.get? b = some o → s.heap.get? b = some o := fun b o e => (e0.bs b o e).1
  have KX : K.In s.heap := e0.mod.kin.keeps up
  refine codeAny_call_function (by rw [depth_caller]; decide) (KX _ _ lk) rfl S.co S.gen rfl (PySem.W.codeRec_of KX hcd) (hb _ _ _ _ ?_)
  refine wpAny_newFunctionEnv_cells S.kind (fun y hy => ?_) fun env he s1 ic => ?_
  · obtain rfl : y = (x, u) := List.mem_singleton.mp hy
    exact (S.par x List.mem_cons_self).imp id fun q => ⟨q, PySem.W.cellsFrom_some _ _ _ (.inl q)⟩
  subst he
  refine ⟨(e0.mod.nolimit.keeps up).keeps ic.toInCall.keep, codeAny_func ?_⟩
  obtain ⟨t, ht, hq⟩ := body cdv s H v Q E (hr.deeper _) hsp
  have I := inv_start (CX := CX0) (E := E) S (by rfl) e0 (vs := [v]) rfl (.cons rv .nil) ic
  refine wpAny_mono (ht.nox.run [] s1 _ H _ I hq) (fun fl s' hs => ?_) fun e s' hs => hs
  cases fl with
  | next =>
    obtain ⟨_, H', J, q⟩ := hs
    exact ⟨.non, H', J.os, J.bare, J.base, J.hok, rfl, q⟩
  | ret r =>
    obtain ⟨z, _, H', J, rz, q⟩ := hs
    exact ⟨z, H', J.os, J.bare, J.base, J.hok, rz, q⟩
  | brk => exact hs.elim fun _ h => h.elim fun _ h => h.2.elim
  | cont => exact hs.elim fun _ h => h.elim fun _ h => h.2.elim
/-- the heap that tells of the script alone -/
def scriptH (K : PySem.W.Frag) (a : Addr) (vs : List Value) (ns : List Int) : Hp := fun b => if b = a ∧ K.lookup a = none then some (.frz { cls := .type "list", data := .seq vs.toArray } (.lst (ns.map V.int))) else none
theorem scriptH_some {K : PySem.W.Frag} {a b : Addr} {vs : List Value} {ns : List Int} {u : HO} (h : scriptH K a vs ns b = some u) : b = a ∧ K.lookup a = none ∧ u = .frz { cls := .type "list", data := .seq vs.toArray } (.lst (ns.map V.int)) := by
  unfold scriptH at h
  by_cases c : b = a ∧ K.lookup a = none
  · rw [if_pos c] at h
    exact ⟨c.1, c.2, (Option.some.inj h).symm⟩
  · rw [if_neg c] at h
    cases h
theorem here_call {P : Program} {w : World} {K : PySem.W.Frag} {mg mb : Str → Option Value} {k : Nat} {fa a : Addr} {fd : FuncData} {x : Str} {sp : Sp} {s : Shared} {vs : List Value} {ns : List Int}
    (KX : K.In s.heap) (hg : s.heap.Ns mainGlobals mg) (hb : s.heap.Ns builtinsNs mb) (hbb : ∀ x : Str, x ≠ "__name__" → mb x = bootBuiltins x) (hlim : s.heap.NoLimit) (hgen : s.gens = #[])
    (ha : s.heap.get? a = some { cls := .type "list", data := .seq vs.toArray }) (hi : IntsAre vs ns) (hl : ns.length ≤ sizeLine) (hr : Room k callerA)
    (F : ∀ base : Heap, K.In base → base.Ns mainGlobals mg → Here P w K mg base k fa fd x sp) (hbind : ∀ (s : Shared) (u : Value), BindsTo s fd ⟨[u], []⟩ [(x, u)])
    (hsp : ∀ H : Hp, SqL K H a (ns.map V.int) → sp [.ref a] H (fun v _ => v = .bl true) fun _ _ _ => False) :
    codeAny (model P w) callerA (.call (.ref fa) ⟨[.ref a], []⟩) (fun r s' => r = .ok (.ret (.bool true)) ∧ OldK s.heap s'.heap ∧ s'.os = s.os ∧ AllBare s'.gens) s := by
  have rv : Vals (ns.map V.int) vs := vals_ints hi
  have hvl := hi.length
  let H := scriptH K a vs ns
  have nd : ∀ {b : Addr} {o : Obj} {es : Array DictEntry} {ep : Nat}, s.heap.get? b = some o → o.data = .dict es ep → H b = none := fun {b o es ep} e d => by
    cases q : H b with
    | none => rfl
    | some u =>
      obtain ⟨eb, _, _⟩ := scriptH_some q
      rw [eb, ha] at e
      cases e
      cases d
  have nsH : ∀ {b : Addr} {m : Str → Option Value}, s.heap.Ns b m → (hidT s.heap H).Ns b m := fun {b m} z => by
    obtain ⟨o, es, ep, e, d, r⟩ := z
    exact ⟨o, es, ep, hidT_get e (nd e d), d, r⟩
  have kin : K.In (hidT s.heap H) := fun b o e => hidT_get (KX b o e) (by
    cases q : H b with
    | none => rfl
    | some u =>
      obtain ⟨eb, hk, _⟩ := scriptH_some q
      rw [eb, hk] at e
      cases e)
  have hok : HOk P w H s.heap := fun b u q => by
    obtain ⟨eb, _, eu⟩ := scriptH_some q
    rw [eb, eu]
    exact ⟨ha, by rw [List.length_map]; exact hl, vs, _, rv, ha⟩
  have hsq : SqL K H a (ns.map V.int) := by
    cases hk : K.lookup a with
    | none => exact .inl (.inr ⟨_, if_pos ⟨rfl, hk⟩⟩)
    | some o =>
      have e := KX a o hk
      rw [ha] at e
      cases e
      exact .inr ⟨_, vs.toArray, _, hk, rfl, rfl, rfl, by rw [List.size_toArray, hvl]; exact hl, by simpa using rv⟩
  have hmod : Mod K mg (hidT s.heap H) := ⟨kin, nsH hg, ⟨mb, nsH hb, hbb⟩, hlim.elim fun mc z => ⟨mc, nsH z.1, z.2⟩⟩
  have e0 : Env0 P w K mg (hidT s.heap H) callerA [] s H := { frames := rfl, mod := hmod, bs := fun b o e => of_hidT e, bsz := Nat.le_of_eq (hidT_size _ _), funs := trivial, frf := fun b z => (nomatch z), hok := hok, bare := .of_eq hgen }
  refine codeAny_mono (F _ kin (nsH hg) s H _ (.ref a) _ _ hr e0 (hbind s _) rfl (hsp H hsq)) fun r s' h => ?_
  cases r with
  | error e => exact False.elim h
  | ok fl =>
    cases fl with
    | ret u =>
      obtain ⟨v, H', os, bare, un, hok', r', q⟩ := h
      obtain rfl : v = .bl true := q
      cases (show u = Value.bool true from r')
      refine ⟨rfl, OldK.of_keep fun b o e => ?_, os, bare⟩
      cases q : H b with
      | none => exact un.keep b o e q (fun z => (nomatch z)) (fun z => (nomatch z))
      | some ho =>
        obtain ⟨eb, _, eu⟩ := scriptH_some q
        rw [eu] at q
        have z := (hok' b _ (un.frzs b _ _ q)).1
        rw [eb, ha] at e
        cases e
        exact z
    | _ => exact False.elim h
open PySem.W in
theorem here_walk {l : PySem.W.OpenLaw} {n k : Nat} {q : Program} {loose : List Str} {XP : (Str → Option Value) → Heap → Prop} {YP : World → Heap → Prop} {d : DefRec} {K : Params → PySem.W.Frag} {sp : World → Sp} {x : Str}
    (hn : l.most = some n) (hn2 : n ≤ sizeLine) (hdf : d.params.defaults = []) (hr : Room k callerA) (hY : ∀ (w : World) (h : Heap), YP w h → (K w.params).In h)
    (F : ∀ (w : World) (mg : Str → Option Value) (fa : Addr) (h : Heap), (K w.params).In h → h.Ns mainGlobals mg → mg d.name = some (.ref fa) →
      ∃ fd : FuncData, (∀ (s : Shared) (u : Value), BindsTo s fd ⟨[u], []⟩ [(x, u)]) ∧ ∀ base : Heap, (K w.params).In base → base.Ns mainGlobals mg → Here l.prog w (K w.params) mg base k fa fd x (sp w))
    (hsp : ∀ (w : World) (H : Hp) (a : Addr) (ns : List Int), ns.length ≤ n → (∀ z ∈ ns, Builtin.Int.intBits z ≤ 1048576) → SqL (K w.params) H a (ns.map V.int) → sp w [.ref a] H (fun v _ => v = .bl true) fun _ _ _ => False) :
    PySem.W.WalkO q loose XP YP l.row.toRowW d [] (fun f vs => PySem.call f vs) :=
  Att.attach_callB hn hdf fun w s₀ s₁ mg mb fa o pm cd doc a vs ns G Y ho hd hcd hmg hobj hints hlen hbits hg =>
    (F w mg fa _ (hY w _ Y) G.T.g hmg).elim fun _ z => here_call (hY w _ Y) G.T.g G.T.b G.T.builtins G.T.nolimit hg hobj hints (Nat.le_trans hlen hn2) hr z.2 z.1 fun H hS => hsp w H a ns hlen hbits hS
end SB

set_option Elab.async false
set_option linter.all false
set_option maxRecDepth 100000
namespace SB
open PySem PySem.Spec PyProof.Rows L2
/-! ### a dict of the module's own top: read, never written -/
structure KD (P : Program) (w : World) (K : PySem.W.Frag) (a : Addr) (kvs : List (Key × V)) : Prop where
  sys : (a == sysModules) = false
  here : ∀ h : Heap, K.In h → ∃ vs, KV kvs vs ∧ h.DictOf (mixKind P w) a vs
section
variable {X : Cx} {pos : Pos} {o i : Expr} {td ty : TE} {a : Addr} {kvs : List (Key × V)}
/-- D[y], D the module's -/
def tKGet (a : Addr) (kvs : List (Key × V)) (td ty : TE) : TE := fun σ H Q => td σ H fun x H1 => ty σ H1 fun y H2 => ∃ k v, x = .ref a ∧ y = kV k ∧ valV kvs k = some v ∧ Q v H2
theorem pe_kget (D : KD X.prog X.w X.K a kvs) (hu : X.A.units + 1 < cLine) (ho : PE X o td) (hi : PE X i ty) (hs : NoSl i) : PE X (.Subscript o i pos) (tKGet a kvs td ty) := by
  refine ⟨fun pins s σ H Q I h => ?_⟩
  refine subD_of PySem.F.slot_dict_getitem.lookup hs (thn (ho.run pins s σ H _ I h) fun u s1 ⟨x, H1, I1, rx, q1⟩ => thn (hi.run pins s1 σ H1 _ I1 q1) fun iv s2 ⟨y, H2, I2, ry, k, v, ex, ey, l, q2⟩ => ?_)
  subst ex ey
  obtain rfl : u = Value.ref a := rx
  obtain ⟨vs, rel, dd⟩ := D.here _ I2.kIn
  obtain ⟨w', hw, rw'⟩ := RelO.some_of (v := v) (o := valueAt vs k) (by rw [← l]; exact rel.val k)
  exact ⟨dd.typeIs, wpAny_getItem_of (kV_is ry) dd.mapOf hw ⟨v, H2, I2.tok _, rw', q2⟩⟩
/-- y in D, y not in D: y a number or a text -/
def rKIn (a : Addr) (kvs : List (Key × V)) (neg : Bool) : R2 := fun y x H Q => ∃ k, x = .ref a ∧ y = kV k ∧ Q (.bl (if neg then !(valV kvs k).isSome else (valV kvs k).isSome)) H
theorem op_kin (D : KD X.prog X.w X.K a kvs) : OpR X (compareOp .In) (rKIn a kvs false) := by
  intro pins s σ H y x u v Q I ry rx h
  obtain ⟨k, ex, ey, q⟩ := h
  subst ex ey
  obtain rfl : v = Value.ref a := rx
  obtain ⟨vs, rel, dd⟩ := D.here _ I.kIn
  refine wpAny_in_of (kV_is ry) D.sys dd.mapOf ?_
  exact ⟨_, H, I.tok _, by rw [← (rel.val k).isSome_eq]; rfl, q⟩
theorem op_knotin (D : KD X.prog X.w X.K a kvs) : OpR X (compareOp .NotIn) (rKIn a kvs true) := by
  intro pins s σ H y x u v Q I ry rx h
  obtain ⟨k, ex, ey, q⟩ := h
  subst ex ey
  obtain rfl : v = Value.ref a := rx
  obtain ⟨vs, rel, dd⟩ := D.here _ I.kIn
  refine wpAny_notIn_of (kV_is ry) D.sys dd.mapOf ?_
  exact ⟨_, H, I.tok _, by rw [← (rel.val k).isSome_eq]; rfl, q⟩
/-! ### case 'a' | 'b': and case _: -/
def orStr (ys : List Str) : List Pattern → Prop := fun ps => ys.length = ps.length ∧ ∀ (i : Nat) (y : Str) (p : Pattern), ys[i]? = some y → ps[i]? = some p → ∃ j p1 p2, p = .MatchValue (.Constant (.str y) j p1) p2
theorem first_str {ps : List Pattern} : ∀ {ys : List Str}, orStr ys ps → ∀ {pins : List (Addr × Obj)} {s : Shared} {σ : L2.St} {H : Hp} {v : V} {u : Value} {Q : Option (List (Str × Value)) → Shared → Prop}, Inv X pins σ H s → RelV v u → (∀ y ∈ ys, scal v (.str y) = true) →
    (∀ s', Inv X pins σ H s' → Q (if ys.any (fun y => decide (v = .str y)) then some [] else none) s') → wpAny (model X.prog X.w) X.A (matchFirst ps X.env u) Q X.xe s := by
  induction ps with
  | nil =>
    intro ys hy pins s σ H v u Q I rv hs q
    cases ys with
    | nil => exact wpAny_matchFirst_nil (q s I)
    | cons _ _ => cases hy.1
  | cons p ps ih =>
    intro ys hy pins s σ H v u Q I rv hs q
    cases ys with
    | nil => cases hy.1
    | cons y ys =>
      obtain ⟨j, p1, p2, rfl⟩ := hy.2 0 y p rfl rfl
      refine wpAny_matchFirst_cons (wpAny_matchPattern_Value (thn ((pe_str (X := X) (x := y) (j := j) (pos := p1)).run pins s σ H (fun z H' => z = .str y ∧ H' = H) I ⟨rfl, rfl⟩) fun w' s1 ⟨z, H1, I1, rz, ez, eH⟩ => ?_))
      subst ez
      subst eH
      refine thn (op_eq (X := X) pins s1 σ H1 v (.str y) u w' (fun z H' => z = .bl (decide (v = .str y)) ∧ H' = H1) I1 rv rz ⟨hs y List.mem_cons_self, rfl, rfl⟩) fun c s2 ⟨z, H2, I2, rc, ez, eH⟩ => ?_
      subst ez
      subst eH
      cases rc
      refine wpAny_truthy_bool ?_
      cases hd : decide (v = V.str y) with
      | true =>
        have e : (y :: ys).any (fun y => decide (v = .str y)) = true := by rw [List.any_cons, hd]; rfl
        have z := q s2 I2
        rw [e] at z
        exact z
      | false =>
        refine ih (ys := ys) ⟨Nat.succ.inj hy.1, fun i => hy.2 (i + 1)⟩ I2 rv (fun y hy => hs y (List.mem_cons_of_mem _ hy)) fun s' I' => ?_
        have e : (y :: ys).any (fun y => decide (v = .str y)) = ys.any (fun y => decide (v = .str y)) := by rw [List.any_cons, hd]; rfl
        have z := q s' I'
        rw [e] at z
        exact z
/-- one of several texts -/
def tOrV (ys : List Str) (tb : TS) (tr : V → TS) : V → TS := fun v D σ H => (∀ y ∈ ys, scal v (.str y) = true) ∧ if ys.any (fun y => decide (v = .str y)) = true then tb D σ H else tr v D σ H
theorem pc_or {ys : List Str} {ps : List Pattern} {ppos : Pos} {body : List Stmt} {rest : List MatchCase} {tb : TS} {tr : V → TS} (hy : orStr ys ps) (hb : PSs X body tb) (hr : PCs X rest tr) (hn : namesOfAll (ps.take 1) = [] := by rfl) :
    PCs X (⟨.MatchOr ps ppos, none, body⟩ :: rest) (tOrV ys tb tr) := by
  refine ⟨fun first pins s σ H v u D I rv h => ?_⟩
  obtain ⟨hs, h⟩ := h
  refine wpAny_matchCases_cons (wpAny_matchPattern_Or (first_str hy I rv hs fun s' I' => ?_))
  cases hd : ys.any (fun y => decide (v = V.str y)) with
  | true =>
    rw [hd] at h
    rw [if_pos rfl, hn]
    exact wpAny_assignInOrder_none (hb.run pins s' σ H D I' h)
  | false =>
    rw [hd] at h
    rw [if_neg (by decide)]
    exact hr.run false pins s' σ H v u D I' rv h
/-- case _: -/
theorem pc_wild {ppos : Pos} {body : List Stmt} {rest : List MatchCase} {tb : TS} (hb : PSs X body tb) : PCs X (⟨.MatchAs none none ppos, none, body⟩ :: rest) (fun _ D σ H => tb D σ H) :=
  ⟨fun _ pins s σ H _ _ D I _ h => wpAny_matchCases_cons (wpAny_matchPattern_Capture (wpAny_assignInOrder_none (hb.run pins s σ H D I h)))⟩
/-! ### case ['a' | 'b', x, _, ..]: names and blanks -/
def setW : L2.St → List (Option Nat) → List V → L2.St
  | σ, some i :: is, v :: vs => setW (σ.set i (some v)) is vs
  | σ, none :: is, _ :: vs => setW σ is vs
  | σ, _, _ => σ
inductive CapW (X : Cx) : List Pattern → List (Option Nat) → Prop where
  | nil : CapW X [] []
  | cap {i : Nat} {x : Str} {pos : Pos} {ps : List Pattern} {is : List (Option Nat)} (hi : X.N[i]? = some x) (hx : Loc X.env.scope x) (hf : X.fn x = true ∨ X.env.scope.names.lookup x = some .local) (r : CapW X ps is) : CapW X (.MatchAs none (some x) pos :: ps) (some i :: is)
  | wild {pos : Pos} {ps : List Pattern} {is : List (Option Nat)} (r : CapW X ps is) : CapW X (.MatchAs none none pos :: ps) (none :: is)
theorem CapW.len {ps : List Pattern} {is : List (Option Nat)} (h : CapW X ps is) : ps.length = is.length := by
  induction h with
  | nil => rfl
  | cap _ _ _ _ ih => exact congrArg (· + 1) ih
  | wild _ ih => exact congrArg (· + 1) ih
/-- what the names get -/
def pairsW : List Pattern → List Value → List (Str × Value)
  | .MatchAs none (some x) _ :: ps, u :: us => (x, u) :: pairsW ps us
  | _ :: ps, _ :: us => pairsW ps us
  | _, _ => []
theorem capw_match {ps : List Pattern} {is : List (Option Nat)} (h : CapW X ps is) : ∀ {us : List Value} {s : Shared} {Q : Option (List (Str × Value)) → Shared → Prop}, us.length = ps.length → Q (some (pairsW ps us)) s → wpAny (model X.prog X.w) X.A (matchEach ps X.env us) Q X.xe s := by
  induction h with
  | nil =>
    intro us s Q hl q
    cases us with
    | nil => exact wpAny_matchEach_nil q
    | cons _ _ => cases hl
  | cap _ _ _ _ ih =>
    intro us s Q hl q
    cases us with
    | nil => cases hl
    | cons u us => exact wpAny_matchEach_cons (wpAny_matchPattern_Capture (ih (Nat.succ.inj hl) q))
  | wild _ ih =>
    intro us s Q hl q
    cases us with
    | nil => cases hl
    | cons u us => exact wpAny_matchEach_cons (wpAny_matchPattern_Capture (ih (Nat.succ.inj hl) q))
theorem capw_bind {ps : List Pattern} {is : List (Option Nat)} (hN : X.N.Nodup) (h : CapW X ps is) : ∀ {us : List Value} {vs : List V} {pins : List (Addr × Obj)} {σ : L2.St} {H : Hp} {s : Shared} {Q : Unit → Shared → Prop}, Inv X pins σ H s → Vals vs us → vs.length = is.length → (∀ s', Inv X pins (setW σ is vs) H s' → Q () s') →
    wpAny (model X.prog X.w) X.A (assignInOrder ((pairsW ps us).map fun (n, _) => bindName X.env n) ((pairsW ps us).map (·.2))) Q X.xe s := by
  induction h with
  | nil =>
    intro us vs pins σ H s Q I r hl k
    cases vs with
    | nil =>
      cases r
      exact wpAny_assignInOrder_none (k s I)
    | cons _ _ => cases hl
  | cap hi hx hf r0 ih =>
    intro us vs pins σ H s Q I r hl k
    cases r with
    | nil => cases hl
    | cons r1 r2 => exact wpAny_assignInOrder_more (wpAny_bindName (store_ok I hN hi hx r1 (fun s' I' => ih I' r2 (Nat.succ.inj hl) k) hf))
  | wild r0 ih =>
    intro us vs pins σ H s Q I r hl k
    cases r with
    | nil => cases hl
    | cons r1 r2 => exact ih I r2 (Nat.succ.inj hl) k
/-- the head of a sequence pattern: one text, or one of several -/
structure PHd (X : Cx) (p : Pattern) (ys : List Str) : Prop where
  run : ∀ {pins : List (Addr × Obj)} {s : Shared} {σ : L2.St} {H : Hp} {v : V} {u : Value} {Q : Option (List (Str × Value)) → Shared → Prop}, Inv X pins σ H s → RelV v u → (∀ y ∈ ys, scal v (.str y) = true) →
    (∀ s', Inv X pins σ H s' → Q (if ys.any (fun y => decide (v = .str y)) then some [] else none) s') → wpAny (model X.prog X.w) X.A (matchPattern p X.env u) Q X.xe s
  star : p.isStar = false
theorem ph_or {ys : List Str} {ps : List Pattern} {ppos : Pos} (hy : orStr ys ps) (hn : namesOfAll (ps.take 1) = [] := by rfl) : PHd X (.MatchOr ps ppos) ys := by
  refine ⟨fun {pins s σ H v u Q} I rv hs q => wpAny_matchPattern_Or (first_str hy I rv hs fun s' I' => ?_), rfl⟩
  have z := q s' I'
  cases hd : ys.any (fun y => decide (v = V.str y)) with
  | true =>
    rw [hd, if_pos rfl] at z
    rw [if_pos rfl, hn]
    exact z
  | false =>
    rw [hd, if_neg (by decide)] at z
    rw [if_neg (by decide)]
    exact z
theorem ph_one {y : Str} {j : Nat} {p1 p2 : Pos} : PHd X (.MatchValue (.Constant (.str y) j p1) p2) [y] := by
  refine ⟨fun {pins s σ H v u Q} I rv hs q => ?_, rfl⟩
  refine wpAny_matchPattern_Value (thn ((pe_str (X := X) (x := y) (j := j) (pos := p1)).run pins s σ H (fun z H' => z = .str y ∧ H' = H) I ⟨rfl, rfl⟩) fun w' s1 ⟨z, H1, I1, rz, ez, eH⟩ => ?_)
  subst ez
  subst eH
  refine thn (op_eq (X := X) pins s1 σ H1 v (.str y) u w' (fun z H' => z = .bl (decide (v = .str y)) ∧ H' = H1) I1 rv rz ⟨hs y List.mem_cons_self, rfl, rfl⟩) fun c s2 ⟨z, H2, I2, rc, ez, eH⟩ => ?_
  subst ez
  subst eH
  cases rc
  refine wpAny_truthy_bool ?_
  have z := q s2 I2
  have e : [y].any (fun y => decide (v = .str y)) = decide (v = .str y) := by rw [List.any_cons, List.any_nil, Bool.or_false]
  rw [e] at z
  cases hd : decide (v = V.str y) with
  | true =>
    rw [hd, if_pos rfl] at z
    exact z
  | false =>
    rw [hd, if_neg (by decide)] at z
    exact z
def tSeqW (K : PySem.W.Frag) (ys : List Str) (is : List (Option Nat)) (tb : TS) (tr : V → TS) : V → TS := fun v D σ H => ∃ a xs, v = .ref a ∧ SqT K H a xs ∧
  (xs.length ≠ is.length + 1 ∧ tr v D σ H ∨ ∃ x0 r, xs = x0 :: r ∧ r.length = is.length ∧ (∀ y ∈ ys, scal x0 (.str y) = true) ∧ if ys.any (fun y => decide (x0 = .str y)) = true then tb D (setW σ is r) H else tr v D σ H)
theorem pc_seqW {ys : List Str} {p0 : Pattern} {ps : List Pattern} {is : List (Option Nat)} {ppos : Pos} {body : List Stmt} {rest : List MatchCase} {tb : TS} {tr : V → TS} (hc : X.calm = true) (hN : X.N.Nodup) (hp : PHd X p0 ys) (hcap : CapW X ps is) (hb : PSs X body tb) (hr : PCs X rest tr)
    (hstar : (p0 :: ps).findIdx? (·.isStar) = none := by rfl) (hwild : ((p0 :: ps).all fun p => p.isWildcard || (p.isStar && p.names.isEmpty)) = false := by rfl) :
    PCs X (⟨.MatchSequence (p0 :: ps) ppos, none, body⟩ :: rest) (tSeqW X.K ys is tb tr) := by
  refine ⟨fun first pins s σ H v u D I rv h => ?_⟩
  obtain ⟨a, vs, rfl, hq, h⟩ := h
  cases rv
  obtain ⟨its, r, ht, hz⟩ := I.tuple hq
  have hlen := r.length
  have hcl := hcap.len
  have hT : s.TypeIs (.ref a) "tuple" := by
    obtain ⟨o, e, c, _⟩ := ht
    exact ⟨o, e, c⟩
  have hs1 : its.toArray.size = its.length := List.size_toArray
  have hz2 : (its.toArray.size : Int) < 2 ^ 63 := by
    have h2 : vs.length ≤ 16777216 := hz
    omega
  refine wpAny_matchCases_cons (wpAny_matchPattern_Sequence (wpAny_collectionFlag hT flag_seq_tuple ?_) hstar hwild)
  rw [if_pos rfl]
  refine PyProof.Rows.pyLen_tuple ht hz2 ?_
  have I2 : Inv X pins σ H { s with toks := s.toks + 1 + 1 } := I.tok _
  rcases h with ⟨hn, h⟩ | ⟨x0, rr, rfl, hrl, hs, h⟩
  · rw [if_pos (by rw [bne_iff_ne]; show (its.toArray.size : Int) ≠ ((ps.length + 1 : Nat) : Int); omega)]
    exact hr.run false pins _ σ H (.ref a) _ D I2 rfl h
  · rw [List.length_cons] at hlen
    rw [if_neg (by rw [bne_iff_ne, Classical.not_not]; show (its.toArray.size : Int) = ((ps.length + 1 : Nat) : Int); omega)]
    have hps : (p0 :: ps).length = its.toArray.size := by show ps.length + 1 = _; omega
    rw [hps]
    refine PyProof.Rows.unpackItems_tuple (I.ok.hd hc) ht fun h' hx => ?_
    have I3 : Inv X pins σ H { s with toks := s.toks + 1 + 1, heap := h' } := I2.kept (t' := s.toks + 1 + 1) fun b o e => hx b o (Nat.ne_of_lt (Heap.lt_size e)) e
    cases r with
    | cons r1 r2 =>
      refine wpAny_matchEach_cons (hp.run I3 r1 hs fun s' I' => ?_) hp.star
      cases hd : ys.any (fun y => decide (x0 = V.str y)) with
      | true =>
        rw [hd, if_pos rfl] at h
        rw [if_pos rfl]
        refine capw_match hcap (by have := r2.length; omega) ?_
        exact capw_bind hN hcap I' r2 hrl fun s5 I5 => hb.run pins s5 _ H D I5 h
      | false =>
        rw [hd, if_neg (by decide)] at h
        rw [if_neg (by decide)]
        exact hr.run false pins s' σ H (.ref a) _ D I' rfl h
end
end SB

set_option Elab.async false
set_option linter.all false
set_option maxRecDepth 100000
namespace SB
open PySem PySem.Spec PyProof.Rows L2 GxR
/-! ### any(test for x in xs), xs a list; the test may read the def's own names -/
/-- the test at an item of vs, whatever state it is asked in: all objects of sa but the table at P stand there -/
def EltN (X : Cx) (P : Addr) (sc : Scope) (x : Str) (elt : Expr) (sa : Shared) (vs : List Value) (pb : Nat → Bool) : Prop :=
  ∀ (ge : Env) (A' : Around) (E' : Value → Shared → Prop) (i : Nat) (v : Value) (sb : Shared) (mb : Str → Option Value), ge.scope = sc → ge.cells = cloFrom X.env.cells sc.names [] →
    (∀ b o, b ≠ P → sa.heap.get? b = some o → sb.heap.get? b = some o) → sb.heap.Ns ge.locals mb → mb x = some v → vs[i]? = some v →
    wpAny (model X.prog X.w) A' (eval elt ge) (fun y sc => y = .bool (pb i) ∧ Keeps sb sc) E' sb
/-- what is asked of the items and of the heap, and that the test then is told by it -/
def Tests (X : Cx) (P : Addr) (sc : Scope) (x : Str) (elt : Expr) (El : L2.St → Hp → List V → (Nat → Bool) → Prop) : Prop :=
  ∀ (pins : List (Addr × Obj)) (sa : Shared) (σ : L2.St) (Ha : Hp) (xs : List V) (vs : List Value) (pb : Nat → Bool), Inv X pins σ Ha sa → (∃ ps, Ha P = some (.tbl ps)) → Vals xs vs → El σ Ha xs pb → EltN X P sc x elt sa vs pb
/-- the code of a generator expression, made or found again: the table at P grows, or stays -/
theorem gen_code {M : Model} {A : Around} {E : Value → Shared → Prop} {s : Shared} {env : Env} {c P : Addr} {ps : Array Value} {pos : Pos} {q : Str} {sc : Scope} {Q : Value → Shared → Prop} (hc : env.code = .ref c) (cd : PySem.W.CodeHd s.heap c P)
    (hP : s.heap.get? P = some { cls := .none, data := .fields ps }) (ht : TriplesOk ps.toList)
    (k : ∀ (cv : Value) (h' : Heap) (tk : Nat) (more : Array Value), Heap.ExtBut P s.heap h' → s.heap.objs.size ≤ h'.objs.size → h'.get? P = some { cls := .none, data := .fields (ps ++ more) } → TriplesOk (ps ++ more).toList → Q cv { s with heap := h', toks := tk }) :
    wpAny M A (genexprCode env pos q sc) Q E s := by
  rcases hf : codeAmong pos ps.toList with _ | cv
  · refine wpAny_genexprCodeX hc (cd.code hP ht) (cd.tab hP) hf fun _ hn tk ex lo hi isC _ tab _ => k _ hn tk _ ex (Nat.le_trans lo (Nat.le_of_lt hi)) tab.2 ?_
    obtain ⟨_, _, _, _, _, _, _, _, _, _, _, _, _, _, _, _, _, _, _, z, _⟩ := isC
    exact z
  · exact wpAny_genexprCode_hit hc (cd.code hP ht) hf (k cv s.heap s.toks #[] (.refl _ _) (Nat.le_refl _) (by rw [Array.append_empty]; exact hP) (by rw [Array.append_empty]; exact ht))
section
variable {X : Cx} {pins : List (Addr × Obj)} {σ : L2.St} {H : Hp} {s sa : Shared}
/-- a generator that is ready: it gives n truths, pb; whatever is drawn, what is known of the heap is Ha but for the table -/
def ReadyN (X : Cx) (pins : List (Addr × Obj)) (σ : L2.St) (Ha : Hp) (P : Addr) (n : Nat) (pb : Nat → Bool) (g : Addr) (sg : Shared) : Prop :=
  ∃ (fp wr : List Addr) (G : Array GenState → Array GenState → Prop) (F : Nat → Value → Prop) (Sg : Nat → Shared → Prop), WalksS X.prog X.w X.A.in1 g fp wr G n F Sg ∧ Sg 0 sg ∧ TruthOf X.prog X.w X.A.in1 F pb ∧ (∀ sz, Moved wr G sg sz → ∃ Hz, Tabbed P Ha Hz ∧ Inv X pins σ Hz sz)
/-- an address among two: one, or the other -/
theorem two_addr {p : Addr → Prop} {a b : Addr} (ha : p a) (hb : p b) : ∀ c ∈ [a, b], p c := fun c m => by
  rcases m with _ | ⟨_, _ | ⟨_, m⟩⟩
  · exact ha
  · exact hb
  · cases m
theorem gen_lst {c P : Addr} {elt iter : Expr} {x : Str} {px gpos : Pos} {sc : Scope} {te : TE} {k : Nat} {El : L2.St → Hp → List V → (Nat → Bool) → Prop} {Qg : Value → Shared → Prop} {R : Nat → (Nat → Bool) → Hp → Prop}
    (hr : Room k X.A) (TB : TabB X.base X.mg c P) (hcode : X.env.code = .ref c) (S : GenS X.env sc x) (hi : PE X iter te) (hel : Tests X P sc x elt El) (hs : ∀ v, genFold iter X.env v = pure v) (I : Inv X pins σ H s)
    (h : te σ H fun v Ha => ∃ a xs pb, v = .ref a ∧ SqL X.K Ha a xs ∧ TabG Ha P ∧ El σ Ha xs pb ∧ R xs.length pb Ha) (hQ : ∀ n pb Ha g sg, R n pb Ha → ReadyN X pins σ Ha P n pb g sg → Qg (.ref g) sg) :
    wpAny (model X.prog X.w) X.A (eval (.GeneratorExp elt [⟨.Name x px, iter, [], 0⟩] sc gpos) X.env) Qg X.xe s := by
  refine wpAny_GeneratorExp_walksQ hr.hd S.co (closure_ok S.free) S.cell S.dot S.loc S.kind (by have := hr.dp; omega) (thn (hi.run pins s σ H _ I h) fun xv sa ⟨v, Ha, Ia, rva, l, xs, pb, ev, hsq, ⟨ps, hP, ht⟩, hE, hR⟩ => ?_) hs
  subst ev
  obtain rfl : xv = Value.ref l := rva
  obtain ⟨its, rv, pl, _⟩ := Ia.list hsq
  have isl : sa.heap.IsList l its.toArray := pl.isList
  have hn : its.toArray.size = xs.length := by rw [List.size_toArray]; exact rv.length.symm
  have tabA : sa.heap.get? P = some { cls := .none, data := .fields ps } := Ia.hok P _ hP
  have lt_l : (l : Nat) < sa.heap.objs.size := isl.elim fun _ z => Heap.lt_size z.1
  have l_P : l ≠ P := by
    rintro rfl
    obtain ⟨_, z, _, _, d⟩ := isl
    rw [tabA] at z
    cases z
    cases d
  have test := hel pins sa σ Ha xs its pb Ia ⟨ps, hP⟩ rv hE
  refine wpAny_pyIter_list isl ?_
  generalize hit : ({ cls := .type "list_iterator", data := .fields #[.ref l, .int 0 0] } : Obj) = it
  have old : ∀ b o, sa.heap.get? b = some o → (sa.heap.push it).get? b = some o := fun _ _ => Heap.get?_push_of_some _
  have itn : it.isFreed = false := by subst hit; rfl
  refine ⟨Ia.nolimit.push it, gen_code hcode (TB.code.keeps fun b u e => old b u (Ia.bk b u e)) (old _ _ tabA) ht fun cv hb tk more ex size tabB tri => ?_⟩
  have ss : (sa.heap.objs.size : Nat) < hb.objs.size := by
    have z : (sa.heap.push it).objs.size = sa.heap.objs.size + 1 := Heap.size_push ..
    rw [z] at size
    exact size
  have kept : ∀ b u, b ≠ P → sa.heap.get? b = some u → hb.get? b = some u := fun b u n e => ex b u n (old b u e)
  obtain ⟨bm, ob, b1, b2, b3, b4, b5, b6, b7, b8⟩ := TB.bm
  have stat : (cStatics : Nat) < sa.heap.objs.size ∧ cStatics ≠ P := by
    obtain ⟨_, z, _⟩ := Ia.nolimit
    refine ⟨z.lt, ?_⟩
    rintro rfl
    obtain ⟨_, _, _, zo, zd, _⟩ := z
    rw [tabA] at zo
    cases zo
    cases zd
  refine wpAny_builtinsFor (m := X.mg) ?_ b1 b2 (kept _ _ b4 (Ia.bk _ _ b5)) b6 b7 b8 ?_
  · rw [Ia.ok.glob]
    exact ((Ia.mod.glob.keeps Ia.bk).push it).extBut ex TB.gP
  refine ⟨sa.heap.objs.size, [sa.heap.objs.size, l], [sa.heap.objs.size], its.toArray.size, _, _, (fun _ => true), (fun i y => y = .bool (pb i)), rfl, fun A' hA => Walks.list hA _ _ (Nat.ne_of_lt lt_l) its.toArray,
    ⟨⟨it, ex _ _ (fun z => absurd (Heap.lt_size tabA) (by rw [← z]; exact Nat.lt_irrefl _)) (Heap.get?_push_size _ itn), by subst hit; rfl, by subst hit; rfl⟩, isl.at fun o e => kept l o l_P e⟩, two_addr ss (Nat.lt_trans lt_l ss), (Ia.nolimit.push it).extBut ex stat.2,
    fun z => absurd stat.1 (by rw [List.mem_singleton.mp z]; exact Nat.lt_irrefl _), fun hf far => ⟨?_, ?_⟩, fun g hg tg gs bare gt gsz gk W ready => ?_⟩
  · intros
    simp only [List.forIn_nil]
    exact wpAny_pure ⟨rfl, keeps_refl _⟩
  · intro A' E' i v sb mb _ at_i _ ns mx hk
    have e : its[i]? = some v := by
      have z : its.toArray[i]? = some v := at_i
      simpa using z
    refine test _ A' E' i v sb mb rfl rfl (fun b o n q => ?_) ns mx e
    have lb : (b : Nat) < sa.heap.objs.size := Heap.lt_size q
    exact hk b (List.mem_range.mpr (Nat.lt_trans lb ss)) (fun z => absurd lb (by rw [List.mem_singleton.mp z]; exact Nat.lt_irrefl _)) o (far b o (kept b o n q))
  · simp only [GxR.passing_true, List.length_range] at W
    rw [hn] at W ready
    refine hQ _ pb Ha g _ hR ⟨_, _, _, _, _, W.in4_1, ready, fun j y sj Qj Ej ⟨i, ij, e⟩ q => ?_, fun sz mv => ?_⟩
    · have ei : i = j := by
        obtain ⟨_, z⟩ := List.getElem?_eq_some_iff.mp ij
        rw [List.getElem_range] at z
        exact z.symm
      subst ei e
      exact wpAny_truthy_bool q
    · have away : ∀ b u, sa.heap.get? b = some u → b ∉ [hb.objs.size, sa.heap.objs.size] := fun b u e => by
        have lb : (b : Nat) < sa.heap.objs.size := Heap.lt_size e
        exact fun m => two_addr (p := fun c => b ≠ c) (Nat.ne_of_lt (Nat.lt_trans lb ss)) (Nat.ne_of_lt lb) b m rfl
      have J := inv_tab (more := more) (t' := sz.toks) (d' := sz.drawn) Ia hP (fun b u n e => mv.heap b u (away b u e) (gk b u (kept b u n e))) (mv.heap P _ (away P _ tabA) (gk P _ tabB)) ((Ia.bare.push bare).movedS mv)
      rw [sh_eta sa sz mv.os] at J
      exact ⟨_, ⟨⟨_, upd_same, tri⟩, fun _ => upd_ne⟩, J⟩
/-- any(..): what it wants and gives -/
def tAnyL (K : PySem.W.Frag) (P : Addr) (El : L2.St → Hp → List V → (Nat → Bool) → Prop) (te : TE) : TE := fun σ H Q => te σ H fun v Ha => ∃ a xs pb, v = .ref a ∧ SqL K Ha a xs ∧ TabG Ha P ∧ El σ Ha xs pb ∧ ∀ Hz, Tabbed P Ha Hz → Q (.bl ((List.range xs.length).any pb)) Hz
theorem pe_anyL {c P : Addr} {elt iter : Expr} {x : Str} {px p pos gpos : Pos} {sc : Scope} {te : TE} {k : Nat} {El : L2.St → Hp → List V → (Nat → Bool) → Prop}
    (hr : Room k X.A) (hg : Gl X "any") (hm : X.mg "any" = none) (TB : TabB X.base X.mg c P) (hcode : X.env.code = .ref c) (S : GenS X.env sc x) (hi : PE X iter te) (hel : Tests X P sc x elt El)
    (hs : ∀ v, genFold iter X.env v = pure v) (he : starEach [.GeneratorExp elt [⟨.Name x px, iter, [], 0⟩] sc gpos] X.env = (false, eval (.GeneratorExp elt [⟨.Name x px, iter, [], 0⟩] sc gpos) X.env) :: starEach [] X.env := by rfl) :
    PE X (.Call (.Name "any" p) [.GeneratorExp elt [⟨.Name x px, iter, [], 0⟩] sc gpos] [] pos) (tAnyL X.K P El te) := by
  refine ⟨fun pins s σ H Q I h => wpAny_Call_Name_kw (ld_blt I hg hm boot_any (PyProof.Rows.callWith_builtin1 ?_ he (by rfl)))⟩
  rw [he]
  refine Calls.spliced_cons (rest := backTo pos (starEach [] X.env)) (gen_lst (R := fun n pb Ha => ∀ Hz, Tabbed P Ha Hz → Q (.bl ((List.range n).any pb)) Hz) hr TB hcode S hi hel hs I h fun n pb Ha g sg hR ⟨fp, wr, G, F, Sg, W, hst, htr, hI⟩ => Calls.spliced_nil (call_any_walkS (W.self 0 _ _ _ hst ⟨g, fp, wr, G, _, F, Sg, _, rfl, W, hst, htr, fun sz mv => ?_⟩)))
  obtain ⟨Hz, tz, J⟩ := hI sz mv
  exact ⟨.bl _, Hz, J, rfl, hR Hz tz⟩
end
end SB

set_option Elab.async false
set_option linter.all false
set_option maxRecDepth 100000
namespace SB
open PySem PySem.Spec PyProof.Rows L2 GxR
/-- the test «x in d», d the name in slot i, a dict -/
def ElIn (i : Nat) : L2.St → Hp → List V → (Nat → Bool) → Prop := fun σ H1 xs pb => ∃ (D : Addr) (kvs : List (Key × V)) (ks : List Int), σ[i]? = some (some (.ref D)) ∧ H1 D = some (.dK kvs) ∧ xs = ks.map V.int ∧ ∀ j k, ks[j]? = some k → pb j = (valV kvs (.inl k)).isSome
theorem tests_in {X : Cx} {P : Addr} {sc : Scope} {x d : Str} {i : Nat} {p1 p2 p3 : Pos} (hN : X.N[i]? = some d) (hk : X.env.kindOf d = some .cell) (hs : sc.kind = .function) (hx : sc.names.lookup x = some .local) (hd : sc.names.lookup d = some .free)
    (hcl : (cloFrom X.env.cells sc.names []).lookup d = some ((X.env.cells.lookup d).getD 0)) (hb1 : (x == ("__debug__" : Str)) = false := by decide) (hb2 : (d == ("__debug__" : Str)) = false := by decide) (hb3 : (d == ("__classdict__" : Str)) = false := by decide) :
    Tests X P sc x (.Compare (.Name x p1) [.In] [.Name d p2] p3) (ElIn i) := by
  intro pins s1 σ H1 xs vs pb I1 ⟨ps, hP⟩ rv ⟨D, kvs, ks, hσ, hD, hxs, hpb⟩ cenv A' E' j v s2 m2 hsc hce keep hns hm hv
  obtain ⟨m, _, hl⟩ := I1.loc
  obtain ⟨u, ru, hu⟩ := hl i d _ hN hσ (.inr (.inl hk))
  obtain rfl : u = Value.ref D := ru
  rcases hu with ⟨h1, _⟩ | ⟨_, c, hc, hcell⟩
  · rw [hk] at h1
    cases h1
  · obtain ⟨oc, hoc, hdc⟩ := hcell
    have tabA : s1.heap.get? P = some { cls := .none, data := .fields ps } := I1.hok P _ hP
    have hcP : c ≠ P := fun e => by
      rw [e, tabA] at hoc
      cases hoc
      cases hdc
    have hDP : D ≠ P := fun e => by
      rw [e, hP] at hD
      cases hD
    obtain ⟨_, hsys, ws, hkv, ob, es, ep, hob, hdd⟩ := I1.hok D _ hD
    have dd : s2.heap.DictOf (mixKind X.prog X.w) D ws := ⟨ob, es, ep, keep D ob hDP hob, hdd⟩
    subst hxs
    obtain ⟨k, t, hk1, rfl⟩ : ∃ k t, ks[j]? = some k ∧ v = Value.int k t := by
      obtain ⟨hj, ej⟩ := List.getElem?_eq_some_iff.mp hv
      have hlen := rv.length
      rw [List.length_map] at hlen
      have hj2 : j < ks.length := by omega
      have rj := rv.get (i := j) (x := V.int ks[j]) (by rw [List.getElem?_map, List.getElem?_eq_getElem hj2]; rfl)
      obtain ⟨w', hw', rw'⟩ := rj
      rw [hv] at hw'
      cases hw'
      obtain ⟨t, e⟩ := rw'
      exact ⟨ks[j], t, List.getElem?_eq_getElem hj2, e⟩
    refine wpAny_Compare1 (wpAny_Name (wpAny_loadName_local (by rw [hsc]; exact hs) (show cenv.scope.names.lookup x = some .local by rw [hsc]; exact hx) hns hm ?_) hb1)
    refine wpAny_Name (wpAny_loadName_free (c := c) (v := Value.ref D) (by rw [hsc]; exact hs) (show cenv.scope.names.lookup d = some .free by rw [hsc]; exact hd) ?_ ⟨oc, keep c oc hcP hoc, hdc⟩ ?_ hb3) hb2
    · rw [hce, hcl, hc]
      rfl
    · refine wpAny_in_of (kV_is (k := Sum.inl k) ⟨t, rfl⟩) hsys dd.mapOf ⟨?_, keeps_tok _ _⟩
      rw [hpb j k hk1, ← (hkv.val (Sum.inl k)).isSome_eq]
/-! ### a def whose code object is known -/
theorem okC {P : Program} {w : World} {K : PySem.W.Frag} {mg : Str → Option Value} {base : Heap} {x qual : Str} {st : Stmt} {f c : Addr} {fd : FuncData} {N ps : List Str} {k : Nat} {sp : Sp} (F : Fun K x qual st f fd) (hc : fd.code = .ref c) (S : FnScope N ps (defScope st))
    (len : ∀ vs H Q E, sp vs H Q E → vs.length = ps.length)
    (body : ∀ (A : Around) (outer : List Env) (s : Shared) (H : Hp) (vs : List V) (Q : VK) (E : XK), Room k (A.deeper (envOfC qual (defScope st) s.heap.objs.size f (.ref c))) → sp vs H Q E →
      ∃ t, PSs (cxOf CX0 P w K mg base N qual (defScope st) f (.ref c) A outer s H E).nox (defBody st) t ∧ t { nx := fun _ H' => Q .non H', rt := Q } (start N vs) H) : FnOk P w K mg base CX0 (k + 1) f fd ps sp := by
  obtain ⟨_, _, _, _, _, _, cdv, _, _, e, lk, cd⟩ := F.ex
  subst e
  obtain rfl : cdv = Value.ref c := hc
  exact fn_of lk cd S len fun A outer s H vs Q E hr hsp => (body A outer s H vs Q E hr hsp).elim fun t z => ⟨t, z.1.nox, z.2⟩
end SB

set_option Elab.async false
set_option linter.all false
set_option maxRecDepth 100000
namespace SB
open PySem PySem.Spec PyProof.Rows L2
section
variable {X : Cx}
/-- y = {k: v for .. in ..}, y in slot i -/
theorem ps_setDc {i : Nat} {y : Str} {py pos spos : Pos} {kx vx tg iter : Expr} {ifs : List Expr} {scope : Scope} {own : List (Str × Nat)} {wi : TI} {g : TG} {tt : TT} {tk tv : TE} (hc : X.calm = true) (hN : X.N.Nodup) (hy : X.N[i]? = some y) (hyl : X.env.scope.names.lookup y = some .local)
    (hsw : swapsWith (.DictComp kx vx [⟨tg, iter, ifs, 0⟩] scope pos) (some (.Name y py)) spos.line X.env = pure true) (hi : PI X tg iter wi) (ok : BlkOk X.N X.env.scope scope own)
    (hg : ∀ (s : Shared) (H : Hp) (C : Addr) (cl : List (Str × Addr)) (fp : List Addr), PG (X.blk s H scope (compEnvC scope cl C X.env) fp) tg g)
    (ht : ∀ (s : Shared) (H : Hp) (C : Addr) (cl : List (Str × Addr)) (fp : List Addr), PTs (X.blk s H scope (compEnvC scope cl C X.env) fp) ifs tt)
    (hk : ∀ (s : Shared) (H : Hp) (C : Addr) (cl : List (Str × Addr)) (fp : List Addr), PE (X.blk s H scope (compEnvC scope cl C X.env) fp) kx tk)
    (hv : ∀ (s : Shared) (H : Hp) (C : Addr) (cl : List (Str × Addr)) (fp : List Addr), PE (X.blk s H scope (compEnvC scope cl C X.env) fp) vx tv) (hs : ∀ x, foldedSetIterable iter X.env x = pure x := by intro _; rfl) :
    PS X (.Assign [.Name y py] (.DictComp kx vx [⟨tg, iter, ifs, 0⟩] scope pos) spos) (tAsg (tDc wi g tt tk tv (own.map (·.2))) (gName i)) := by
  refine ⟨fun pins s σ H D I h => ?_⟩
  have h2 : tDc wi g tt tk tv (own.map (·.2)) σ H (fun x H1 => gName i x σ H1 D.nx) := h
  rw [exec_Assign_Name_used _ _ _ _ hsw]
  refine wpAny_bind (wpAny_standAt (wpAny_bind ?_))
  change wpAny _ X.A (comprehension _ scope X.env _ newDict false (eval iter X.env) (some (assign (.Name y py) X.env)) >>= fun _ => _) _ _ s
  refine wpAny_bind (thn (dc_core (Qf := fun _ s' => SP X pins D .next s') hc hN I hi ok hg ht hk hv hs h2 fun A0 C sb m Hb Ib q ns ⟨f0, f1, f2, f3, f4, f5⟩ => ?_) fun _ s' z => wpAny_pure (wpAny_pure z))
  refine wpAny_assign_Name (store_ok2 (v := V.ref A0) Ib hN hy (.inl hyl) rfl (fun sc Ic ⟨a, same, ha⟩ => ⟨m, ns.sameBut same ?_, fun _ same2 => ⟨_, Hb, Ic.turned (t' := sc.toks) (fun b o n e => (same2.2 b n).trans e) f0 f1 f3 f4 f5, q⟩⟩) (.inr hyl))
  exact ha.elim (fun z => by rw [z]; exact f1) fun z e => f4 y a z e.symm
theorem sw_dc {kx vx : Expr} {gs : List Comprehension} {scope : Scope} {pos py : Pos} {y : Str} {l : Nat} {env : Env} (hk : env.scope.kind = .function) (hy : env.scope.names.lookup y = some .local) (hl : (py.line == pos.line) = true)
    (ha : (scope.names.any fun (n, k) => n == y && (k == .local || k == .cell)) = false) : swapsWith (.DictComp kx vx gs scope pos) (some (.Name y py)) l env = pure true := by
  have kind : env.blockKind = .function := by unfold Env.blockKind; rw [hk]; rfl
  have name : env.kindOf y = some .local := hy
  unfold swapsWith
  simp only [kind, name, ha, Expr.pos, hl]
  rfl
theorem pg_tupK (K : PySem.W.Frag) (hK : X.K = K) {es : List Expr} {k : Nat} {pos : Pos} {t : TGs} {n : Nat} (hc : X.calm = true) (h : PGs X es t) (hn : (assignEach es X.env).length = n := by rfl) (hst : (assignEach es X.env).findIdx? (·.1) = none := by rfl) :
    PG X (.Tuple es k pos) (gTup K n t) := by
  subst hK
  exact pg_tup hc h hn hst
end
end SB

set_option Elab.async false
set_option linter.all false
set_option maxRecDepth 100000
namespace SB
open PySem PySem.Spec PyProof.Rows L2
/-! ### sorted(rows), rows a list of lists of numbers -/
/-- a row: where it stands, and its numbers -/
abbrev Row := Addr × List Int
def rowLe (p q : Row) : Bool := decide (p.2 ≤ q.2)
def rRows (K : PySem.W.Frag) : List V → Hp → VK → Prop := fun vs H Q => ∃ (a : Addr) (bs : List Row), vs = [V.ref a] ∧ SqL K H a (bs.map fun b => V.ref b.1) ∧ (∀ b ∈ bs, SqL K H b.1 (b.2.map V.int)) ∧
  ∀ p, H p = none → Q (.ref p) (upd H p (.lst ((bs.mergeSort rowLe).map fun b => V.ref b.1)))
theorem reads_ints {h : Heap} : ∀ {ns : List Int} {us : List Value}, Vals (ns.map V.int) us → PySem.ReadsAll h us (ns.map PyData.int) []
  | [], _, .nil => .nil
  | n :: ns, _, .cons ⟨t, e⟩ r => by
    subst e
    exact .cons (as := []) (.int n t) (reads_ints r)
theorem each_rows {h : Heap} : ∀ {bs : List Row} {us : List Value}, Vals (bs.map fun b => V.ref b.1) us → (∀ b ∈ bs, ∃ its : List Value, h.IsList b.1 its.toArray ∧ Vals (b.2.map V.int) its) →
    PySem.W.EachIs (fun v (b : Row) => v = Value.ref b.1) us bs ∧ PySem.W.EachIs (fun v (b : Row) => ∃ as, PySem.Reads h v (.list (b.2.map PyData.int)) as) us bs
  | [], _, .nil, _ => ⟨.nil, .nil⟩
  | b :: bs, _, .cons e r, hb => by
    obtain ⟨i1, i2⟩ := each_rows r fun c hc => hb c (List.mem_cons_of_mem _ hc)
    obtain ⟨its, ⟨o, ho, hc, n, hd⟩, hv⟩ := hb b List.mem_cons_self
    exact ⟨.cons e i1, .cons ⟨_, by rw [show _ = Value.ref b.1 from e]; exact .list ho hc hd (by simpa using reads_ints hv)⟩ i2⟩
theorem each_back : ∀ {us : List Value} {bs : List Row}, PySem.W.EachIs (fun v (b : Row) => v = Value.ref b.1) us bs → Vals (bs.map fun b => V.ref b.1) us
  | _, _, .nil => .nil
  | _, _, .cons e r => .cons e (each_back r)
theorem cr_rows {X : Cx} (hu : X.A.units + 64 < cLine) : CallR X (.builtin "sorted") (rRows X.K) := by
  intro pins s σ H vs us Q I r ⟨a, bs, ev, hs, hb, q⟩
  subst ev
  obtain ⟨u, rfl, ru⟩ := vals1 r
  cases (show u = Value.ref a from ru)
  obtain ⟨its, rv, hl, hz⟩ := I.list hs
  have hz2 : bs.length ≤ sizeLine := by rw [List.length_map] at hz; exact hz
  obtain ⟨e1, e2⟩ := each_rows (h := s.heap) rv fun b m => by
    obtain ⟨it2, rv2, hl2, _⟩ := I.list (hb b m)
    exact ⟨it2, hl2.isList, rv2⟩
  refine PySem.W.sorted_data (enc := fun b : Row => PyData.list (b.2.map PyData.int)) hl.isList e1 e2 (.of fun b b' => by simp [PySem.W.alike, PySem.W.alike_ints]) (PySem.W.Sortable.others (enc := fun b : Row => PyData.list (b.2.map PyData.int)) fun b => And.intro (fun z => nomatch z) (fun xs z => nomatch z)) hz2 (fun b _ => ?_) fun out hlen heach => ?_
  · have z : (PyData.list (b.2.map PyData.int)).depth ≤ 1 := by
      rw [PyData.depth, PySem.W.depth_ints]
      exact Nat.le_refl 1
    omega
  · rw [PySem.W.dataLe_rows (fun b : Row => b.2)] at heach
    have hv := each_back heach
    obtain ⟨n, hn⟩ := sortedAll_at s.heap its out.toArray
    refine ⟨.ref (s.heap.objs.size + 1), upd H (s.heap.objs.size + 1) (.lst ((bs.mergeSort rowLe).map fun b => V.ref b.1)), I.laid (t' := s.toks) (fun _ _ e => sortedAll_old e) (Nat.le_succ _) ⟨?_, out, n, hv, hn⟩, rfl, q _ (I.hok.fresh (Nat.le_succ _))⟩
    rw [List.length_map, List.length_mergeSort]
    exact hz2
end SB

set_option linter.all false
namespace Cir
/-! ## Circles of waits: the mathematics -/
abbrev Graph := List (Int × List Int)
def keys (G : Graph) : List Int := G.map (·.1)
/-- the goals of a task -/
def out (G : Graph) (t : Int) : List Int := match G.find? fun p => decide (p.1 = t) with
  | some p => p.2
  | none => []
theorem out_key {G : Graph} {t g : Int} (h : g ∈ out G t) : t ∈ keys G := by
  unfold out at h
  cases e : G.find? fun p => decide (p.1 = t) with
  | none => rw [e] at h; cases h
  | some p =>
    have h1 := List.mem_of_find?_eq_some e
    have h2 := List.find?_some e
    exact List.mem_map.mpr ⟨p, h1, by simpa using h2⟩
theorem out_none {G : Graph} {t : Int} (h : t ∉ keys G) : out G t = [] := by
  cases e : out G t with
  | nil => rfl
  | cons g r => exact absurd (out_key (g := g) (by rw [e]; exact List.mem_cons_self)) h
/-- from x by r on to z -/
def Wk (G : Graph) (z : Int) : Int → List Int → Prop
  | x, [] => z ∈ out G x
  | x, y :: r => y ∈ out G x ∧ Wk G z y r
section
variable {G : Graph} {z x y t : Int} {a b r : List Int}
theorem wk_app : Wk G z x (a ++ y :: b) ↔ Wk G y x a ∧ Wk G z y b := by
  induction a generalizing x with
  | nil => exact Iff.rfl
  | cons c a ih =>
    show c ∈ out G x ∧ Wk G z c (a ++ y :: b) ↔ (c ∈ out G x ∧ Wk G y c a) ∧ Wk G z y b
    rw [ih, and_assoc]
theorem wk_key (h : Wk G z x r) : x ∈ keys G := by
  cases r with
  | nil => exact out_key h
  | cons y r => exact out_key h.1
/-- a closed walk -/
def CW (G : Graph) (t : Int) : Prop := ∃ r, Wk G t t r
/-- the least of the shortest ones -/
def Best (G : Graph) (t : Int) (c : List Int) : Prop := ∃ r, c = t :: r ∧ Wk G t t r ∧ (∀ r', Wk G t t r' → r.length ≤ r'.length) ∧ ∀ r', Wk G t t r' → r'.length = r.length → r ≤ r'
def IsC (G : Graph) : Option (List Int) → Prop
  | none => ∀ t ∈ keys G, ¬ CW G t
  | some c => ∃ t, t ∈ keys G ∧ (∀ u ∈ keys G, u < t → ¬ CW G u) ∧ Best G t c
theorem best_cw {c : List Int} (h : Best G t c) : CW G t := let ⟨r, _, h, _⟩ := h; ⟨r, h⟩
theorem best_uniq {c d : List Int} (h : Best G t c) (k : Best G t d) : c = d := by
  obtain ⟨r, rfl, h1, h2, h3⟩ := h
  obtain ⟨q, rfl, k1, k2, k3⟩ := k
  have e : r.length = q.length := Nat.le_antisymm (h2 _ k1) (k2 _ h1)
  rw [List.le_antisymm (h3 _ k1 e.symm) (k3 _ h1 e)]
theorem isC_uniq : ∀ {c d : Option (List Int)}, IsC G c → IsC G d → c = d
  | none, none, _, _ => rfl
  | none, some d, h, ⟨t, k, _, b⟩ => absurd (best_cw b) (h t k)
  | some c, none, ⟨t, k, _, b⟩, h => absurd (best_cw b) (h t k)
  | some c, some d, ⟨t, k, f, b⟩, ⟨u, k', f', b'⟩ => by
    have e : t = u := by
      rcases Int.lt_trichotomy t u with h | h | h
      · exact absurd (best_cw b) (f' t k h)
      · exact h
      · exact absurd (best_cw b') (f u k' h)
    subst e
    rw [best_uniq b b']
/-- a shortest one through no lesser circle is simple, through greater tasks alone -/
theorem short (hno : ∀ u ∈ keys G, u < t → ¬ CW G u) (h : Wk G t t r) (hm : ∀ r', Wk G t t r' → r.length ≤ r'.length) : (∀ y ∈ r, t < y ∧ y ∈ keys G) ∧ (t :: r).Nodup := by
  have gt : ∀ y ∈ r, t < y ∧ y ∈ keys G := fun y hy => by
    obtain ⟨a, b, rfl⟩ := List.append_of_mem hy
    obtain ⟨h1, h2⟩ := wk_app.mp h
    have ky := wk_key h2
    refine ⟨?_, ky⟩
    rcases Int.lt_trichotomy t y with q | q | q
    · exact q
    · subst q
      have z := hm b h2
      rw [List.length_append, List.length_cons] at z
      omega
    · exact absurd ⟨b ++ t :: a, wk_app.mpr ⟨h2, h1⟩⟩ (hno y ky q)
  refine ⟨gt, List.nodup_cons.mpr ⟨fun m => absurd (gt t m).1 (Int.lt_irrefl t), ?_⟩⟩
  have two : ∀ a y b c, r = a ++ y :: (b ++ y :: c) → False := fun a y b c e => by
    subst e
    obtain ⟨h1, h2⟩ := wk_app.mp h
    obtain ⟨h3, h4⟩ := wk_app.mp h2
    have z := hm (a ++ y :: c) (wk_app.mpr ⟨h1, h4⟩)
    simp only [List.length_append, List.length_cons] at z
    omega
  have nd : ∀ (l p : List Int), r = p ++ l → l.Nodup := by
    intro l
    induction l with
    | nil => intro _ _; exact List.nodup_nil
    | cons y l ih =>
      intro p e
      refine List.nodup_cons.mpr ⟨fun m => ?_, ih (p ++ [y]) (by rw [e, List.append_assoc]; rfl)⟩
      obtain ⟨b, c, rfl⟩ := List.append_of_mem m
      exact two p y b c e
  exact nd r [] rfl
/-! ### how far -/
def Rn (G : Graph) (t : Int) : Nat → Int → Prop
  | 0, x => x = t
  | n + 1, x => ∃ y ∈ out G x, Rn G t n y
def Dn (G : Graph) (t : Int) (n : Nat) (x : Int) : Prop := Rn G t n x ∧ ∀ m, m < n → ¬ Rn G t m x
theorem rn_wk : ∀ {n : Nat} {x : Int}, Rn G t (n + 1) x ↔ ∃ r, r.length = n ∧ Wk G t x r
  | 0, x => ⟨fun ⟨y, hy, e⟩ => ⟨[], rfl, by
      have e' : y = t := e
      rw [← e']
      exact hy⟩, fun ⟨r, hl, h⟩ => by
      cases r with
      | nil => exact ⟨t, h, rfl⟩
      | cons _ _ => cases hl⟩
  | n + 1, x => ⟨fun ⟨y, hy, e⟩ => by
      obtain ⟨r, hl, h⟩ := rn_wk.mp e
      exact ⟨y :: r, by rw [List.length_cons, hl], hy, h⟩, fun ⟨r, hl, h⟩ => by
      cases r with
      | nil => cases hl
      | cons y r => exact ⟨y, h.1, rn_wk.mpr ⟨r, Nat.succ.inj hl, h.2⟩⟩⟩
theorem cw_rn : CW G t ↔ ∃ g ∈ out G t, ∃ n, Rn G t n g := ⟨fun ⟨r, h⟩ => by
    obtain ⟨y, hy, e⟩ := (rn_wk (n := r.length)).mpr ⟨r, rfl, h⟩
    exact ⟨y, hy, _, e⟩, fun ⟨g, hg, n, h⟩ => by
    obtain ⟨r, _, w⟩ := (rn_wk (n := n)).mp ⟨g, hg, h⟩
    exact ⟨r, w⟩⟩
theorem least {P : Nat → Prop} (h : ∃ n, P n) : ∃ n, P n ∧ ∀ m, m < n → ¬ P m := by
  obtain ⟨n, hn⟩ := h
  induction n using Nat.strongRecOn with
  | _ n ih =>
    by_cases e : ∃ m, m < n ∧ P m
    · obtain ⟨m, hm, pm⟩ := e
      exact ih m hm pm
    · exact ⟨n, hn, fun m hm pm => e ⟨m, hm, pm⟩⟩
theorem dn_ex {n : Nat} (h : Rn G t n x) : ∃ k, k ≤ n ∧ Dn G t k x := by
  obtain ⟨k, hk, hl⟩ := least (P := fun n => Rn G t n x) ⟨n, h⟩
  refine ⟨k, ?_, hk, hl⟩
  rcases Nat.lt_or_ge n k with q | q
  · exact absurd h (hl n q)
  · exact q
theorem dn_uniq {n m : Nat} (h : Dn G t n x) (k : Dn G t m x) : n = m := by
  rcases Nat.lt_trichotomy n m with q | q | q
  · exact absurd h.1 (k.2 n q)
  · exact q
  · exact absurd k.1 (h.2 m q)
theorem dn_succ {n : Nat} (h : Dn G t (n + 1) x) : ∃ y ∈ out G x, Dn G t n y := by
  obtain ⟨⟨y, hy, hr⟩, hl⟩ := h
  exact ⟨y, hy, hr, fun m hm k => hl (m + 1) (by omega) ⟨y, hy, k⟩⟩
/-- if nothing is n far, nothing is farther -/
theorem dn_none {n k : Nat} (h : ∀ x, ¬ Dn G t n x) (hk : n ≤ k) : ∀ x, ¬ Dn G t k x := by
  obtain ⟨d, rfl⟩ := Nat.le.dest hk
  clear hk
  induction d with
  | zero => exact h
  | succ d ih =>
    intro x hx
    obtain ⟨y, _, hy⟩ := dn_succ (n := n + d) hx
    exact ih y hy
theorem dn_key {n : Nat} (h : Dn G t (n + 1) x) : x ∈ keys G := let ⟨y, hy, _⟩ := dn_succ h; out_key hy
/-! ### the greedy walk -/
/-- l more tasks from x on: always the least one of those that are nearest -/
def Gre (G : Graph) (t : Int) : Nat → Int → List Int → Prop
  | 0, _, r => r = []
  | l + 1, x, r => ∃ m q, r = m :: q ∧ (m ∈ out G x ∧ Dn G t (l + 1) m) ∧ (∀ y ∈ out G x, Dn G t (l + 1) y → m ≤ y) ∧ Gre G t l m q
/-- l is how far the nearest goal of x is -/
def Mn (G : Graph) (t : Int) (l : Nat) (x : Int) : Prop := (∃ g ∈ out G x, Dn G t l g) ∧ ∀ g ∈ out G x, ∀ n, Rn G t n g → l ≤ n
theorem mn_next {l : Nat} {m : Int} (h : Dn G t (l + 1) m) : Mn G t l m := ⟨dn_succ h, fun g hg n hn => by
  rcases Nat.lt_or_ge n l with q | q
  · exact absurd (⟨g, hg, hn⟩ : Rn G t (n + 1) m) (h.2 (n + 1) (by omega))
  · exact q⟩
theorem gre_best : ∀ {l : Nat} {x : Int} {r : List Int}, Mn G t l x → Gre G t l x r → Wk G t x r ∧ r.length = l ∧ ∀ r', Wk G t x r' → l ≤ r'.length ∧ (r'.length = l → r ≤ r')
  | 0, x, r, h, g => by
    have e : r = [] := g
    subst e
    obtain ⟨⟨y, hy, hd⟩, _⟩ := h
    have e : y = t := hd.1
    subst e
    refine ⟨hy, rfl, fun r' _ => ⟨Nat.zero_le _, fun h => ?_⟩⟩
    rw [List.length_eq_zero_iff.mp h]
    exact List.le_refl _
  | l + 1, x, r, h, ⟨m, q, e, hm, hl, g⟩ => by
    subst e
    obtain ⟨i1, i2, i3⟩ := gre_best (mn_next hm.2) g
    refine ⟨⟨hm.1, i1⟩, by rw [List.length_cons, i2], fun r' w => ?_⟩
    cases r' with
    | nil => exact absurd (h.2 t w 0 rfl) (by omega)
    | cons y s =>
      obtain ⟨w1, w2⟩ := w
      have hr : Rn G t (s.length + 1) y := rn_wk.mpr ⟨s, rfl, w2⟩
      have hle := h.2 y w1 _ hr
      refine ⟨by rw [List.length_cons]; exact hle, fun e => ?_⟩
      rw [List.length_cons] at e
      have es : s.length = l := Nat.succ.inj e
      rw [es] at hr
      have hd : Dn G t (l + 1) y := ⟨hr, fun k hk hn => by have := h.2 y w1 k hn; omega⟩
      have hmy := hl y w1 hd
      rcases Int.lt_or_eq_of_le hmy with c | c
      · exact List.le_of_lt (List.cons_lt_cons_iff.mpr (.inl c))
      · subst c
        exact List.cons_le_cons_iff.mpr (.inr ⟨rfl, (i3 s w2).2 es⟩)
theorem gre_isBest {l : Nat} {r : List Int} (h : Mn G t l t) (g : Gre G t l t r) : Best G t (t :: r) := by
  obtain ⟨h1, h2, h3⟩ := gre_best h g
  exact ⟨r, rfl, h1, fun r' w => by rw [h2]; exact (h3 r' w).1, fun r' w e => (h3 r' w).2 (by rw [e, h2])⟩
/-! ### the law's ways -/
def Pth (G : Graph) : Int → List Int → Prop
  | _, [] => True
  | x, y :: r => y ∈ out G x ∧ Pth G y r
def lst : Int → List Int → Int
  | x, [] => x
  | _, y :: r => lst y r
theorem pth_snoc {o : Int} : ∀ {x : Int} {r : List Int}, Pth G x (r ++ [o]) ↔ Pth G x r ∧ o ∈ out G (lst x r)
  | x, [] => ⟨fun h => ⟨trivial, h.1⟩, fun h => ⟨h.2, trivial⟩⟩
  | x, y :: r => by
    show y ∈ out G x ∧ Pth G y (r ++ [o]) ↔ (y ∈ out G x ∧ Pth G y r) ∧ o ∈ out G (lst y r)
    rw [pth_snoc, and_assoc]
theorem lst_snoc {o : Int} : ∀ {x : Int} {r : List Int}, lst x (r ++ [o]) = o
  | x, [] => rfl
  | x, y :: r => lst_snoc (x := y) (r := r)
theorem lst_get : ∀ {x : Int} {r : List Int}, (x :: r)[r.length]? = some (lst x r)
  | x, [] => rfl
  | x, y :: r => by
    rw [List.length_cons, List.getElem?_cons_succ]
    exact lst_get (x := y) (r := r)
theorem wk_pth : ∀ {x : Int} {r : List Int}, Wk G z x r ↔ Pth G x r ∧ z ∈ out G (lst x r)
  | x, [] => ⟨fun h => ⟨trivial, h⟩, fun h => h.2⟩
  | x, y :: r => by
    show y ∈ out G x ∧ Wk G z y r ↔ (y ∈ out G x ∧ Pth G y r) ∧ z ∈ out G (lst y r)
    rw [wk_pth, and_assoc]
def Way (G : Graph) (t : Int) (r : List Int) : Prop := Pth G t r ∧ (∀ y ∈ r, t < y ∧ y ∈ keys G) ∧ (t :: r).Nodup
theorem way_nil : Way G t [] := ⟨trivial, (fun y h => nomatch h), List.nodup_cons.mpr ⟨by simp, List.nodup_nil⟩⟩
theorem way_snoc {o : Int} : Way G t (r ++ [o]) ↔ Way G t r ∧ o ∈ out G (lst t r) ∧ t < o ∧ o ∈ keys G ∧ o ∉ t :: r := by
  have e : t :: (r ++ [o]) = (t :: r) ++ [o] := rfl
  unfold Way
  rw [pth_snoc, e, List.nodup_append]
  constructor
  · rintro ⟨⟨h1, h2⟩, h3, h4, _, h5⟩
    refine ⟨⟨h1, fun y hy => h3 y (List.mem_append_left _ hy), h4⟩, h2, (h3 o (by simp)).1, (h3 o (by simp)).2, fun m => h5 o m o (by simp) rfl⟩
  · rintro ⟨⟨h1, h3, h4⟩, h2, h5, h6, h7⟩
    refine ⟨⟨h1, h2⟩, fun y hy => ?_, h4, List.nodup_cons.mpr ⟨by simp, List.nodup_nil⟩, fun a ha b hb q => ?_⟩
    · rcases List.mem_append.mp hy with m | m
      · exact h3 y m
      · rw [List.mem_singleton.mp m]
        exact ⟨h5, h6⟩
    · rw [List.mem_singleton.mp hb] at q
      exact h7 (by rw [← q]; exact ha)
def WaysOk (G : Graph) (t : Int) (n : Nat) (ws : List (List Int)) : Prop := ∀ w, w ∈ ws ↔ ∃ r, w = t :: r ∧ r.length = n ∧ Way G t r
theorem ways_zero : WaysOk G t 0 [[t]] := fun w => by
  rw [List.mem_singleton]
  constructor
  · intro e
    exact ⟨[], e, rfl, way_nil⟩
  · rintro ⟨r, e, hl, _⟩
    rw [e, List.length_eq_zero_iff.mp hl]
theorem ways_succ {n : Nat} {ws ws' : List (List Int)} (h : WaysOk G t n ws) (h' : ∀ w', w' ∈ ws' ↔ ∃ w r o, w ∈ ws ∧ w = t :: r ∧ o ∈ out G (lst t r) ∧ t < o ∧ o ∈ keys G ∧ o ∉ w ∧ w' = w ++ [o]) : WaysOk G t (n + 1) ws' := fun w' => by
  rw [h']
  constructor
  · rintro ⟨w, r, o, hw, e, h1, h2, h3, h4, e'⟩
    obtain ⟨r2, e2, hl, hW⟩ := (h w).mp hw
    rw [e] at e2
    obtain rfl : r = r2 := (List.cons.inj e2).2
    subst e
    exact ⟨r ++ [o], e', by rw [List.length_append, hl]; rfl, way_snoc.mpr ⟨hW, h1, h2, h3, h4⟩⟩
  · rintro ⟨r, e, hl, hW⟩
    rcases List.eq_nil_or_concat r with q | ⟨q, o, e2⟩
    · rw [q] at hl
      cases hl
    · have e3 : r = q ++ [o] := by rw [e2, List.concat_eq_append]
      subst e3
      rw [List.length_append] at hl
      obtain ⟨hW', h1, h2, h3, h4⟩ := way_snoc.mp hW
      exact ⟨t :: q, q, o, (h _).mpr ⟨q, rfl, Nat.succ.inj hl, hW'⟩, rfl, h1, h2, h3, h4, by rw [e]; rfl⟩
def FoundOk (G : Graph) (t : Int) (n : Nat) (fs : List (List Int)) : Prop := ∀ w, w ∈ fs ↔ ∃ r, w = t :: r ∧ r.length = n ∧ Way G t r ∧ t ∈ out G (lst t r)
theorem nodup_le : ∀ {l k : List Int}, l.Nodup → (∀ x ∈ l, x ∈ k) → l.length ≤ k.length
  | [], _, _, _ => Nat.zero_le _
  | x :: l, k, nd, h => by
    obtain ⟨n1, n2⟩ := List.nodup_cons.mp nd
    have hx := h x List.mem_cons_self
    have z := nodup_le (l := l) (k := k.erase x) n2 fun y hy => (List.mem_erase_of_ne (fun e => n1 (by rw [← e]; exact hy))).mpr (h y (List.mem_cons_of_mem _ hy))
    rw [List.length_erase_of_mem hx] at z
    have := List.length_pos_of_mem hx
    rw [List.length_cons]
    omega
theorem cw_short (h : CW G t) : ∃ r, Wk G t t r ∧ ∀ r', Wk G t t r' → r.length ≤ r'.length := by
  obtain ⟨r, hr⟩ := h
  obtain ⟨n, ⟨q, hq, e⟩, hl⟩ := least (P := fun n => ∃ q, Wk G t t q ∧ q.length = n) ⟨_, r, hr, rfl⟩
  refine ⟨q, hq, fun r' h' => ?_⟩
  rw [e]
  rcases Nat.lt_or_ge r'.length n with c | c
  · exact absurd ⟨r', h', rfl⟩ (hl _ c)
  · exact c
theorem none_found (ht : t ∈ keys G) (hno : ∀ u ∈ keys G, u < t → ¬ CW G u) (h : ∀ n, n < (keys G).length → FoundOk G t n []) : ¬ CW G t := fun c => by
  obtain ⟨r, w, hm⟩ := cw_short c
  obtain ⟨s1, s2⟩ := short hno w hm
  have hlen : (t :: r).length ≤ (keys G).length := nodup_le s2 fun x hx => by
    rcases List.mem_cons.mp hx with e | m
    · rw [e]; exact ht
    · exact (s1 x m).2
  have z := (h r.length (by rw [List.length_cons] at hlen; omega) (t :: r)).mpr ⟨r, rfl, rfl, ⟨(wk_pth.mp w).1, s1, s2⟩, (wk_pth.mp w).2⟩
  cases z
theorem found_best {n : Nat} {fs : List (List Int)} {c : List Int} (hno : ∀ u ∈ keys G, u < t → ¬ CW G u) (h : ∀ m, m < n → FoundOk G t m []) (hf : FoundOk G t n fs) (hc : c ∈ fs) (hl : ∀ w ∈ fs, c ≤ w) : Best G t c := by
  obtain ⟨r, e, hr, hW, hz⟩ := (hf c).mp hc
  have w : Wk G t t r := wk_pth.mpr ⟨hW.1, hz⟩
  obtain ⟨q, wq, hm⟩ := cw_short ⟨r, w⟩
  have hq : q.length = n := by
    rcases Nat.lt_or_ge q.length n with c1 | c1
    · obtain ⟨s1, s2⟩ := short hno wq hm
      have z := (h q.length c1 (t :: q)).mpr ⟨q, rfl, rfl, ⟨(wk_pth.mp wq).1, s1, s2⟩, (wk_pth.mp wq).2⟩
      cases z
    · have := hm r w
      omega
  have hm' : ∀ r', Wk G t t r' → r.length ≤ r'.length := fun r' w' => by have := hm r' w'; omega
  refine ⟨r, e, w, hm', fun r' w' e' => ?_⟩
  obtain ⟨s1, s2⟩ := short hno w' fun r2 w2 => by rw [e']; exact hm' r2 w2
  have z := hl (t :: r') ((hf _).mpr ⟨r', rfl, by rw [e', hr], ⟨(wk_pth.mp w').1, s1, s2⟩, (wk_pth.mp w').2⟩)
  rw [e] at z
  rcases List.cons_le_cons_iff.mp z with c1 | ⟨_, c1⟩
  · exact absurd c1 (Int.lt_irrefl t)
  · exact c1
theorem found_some {n : Nat} {fs : List (List Int)} {c : List Int} (ht : t ∈ keys G) (hno : ∀ u ∈ keys G, u < t → ¬ CW G u) (h : ∀ m, m < n → FoundOk G t m []) (hf : FoundOk G t n fs) (hc : c ∈ fs) (hl : ∀ w ∈ fs, c ≤ w) : IsC G (some c) :=
  ⟨t, ht, hno, found_best hno h hf hc hl⟩
theorem found_of {n : Nat} {ws fs : List (List Int)} (h : WaysOk G t n ws) (hf : ∀ w, w ∈ fs ↔ w ∈ ws ∧ ∃ r, w = t :: r ∧ t ∈ out G (lst t r)) : FoundOk G t n fs := fun w => by
  rw [hf, h w]
  constructor
  · rintro ⟨⟨r, e, hl, hW⟩, r2, e2, hz⟩
    rw [e] at e2
    obtain rfl : r = r2 := (List.cons.inj e2).2
    exact ⟨r, e, hl, hW, hz⟩
  · rintro ⟨r, e, hl, hW, hz⟩
    exact ⟨⟨r, e, hl, hW⟩, r, e, hz⟩
/-! ### steps_to, by levels -/
/-- S: how far each task is, up to n -/
def SLv (G : Graph) (t : Int) (n : Nat) (S : List (Int × Int)) : Prop := (S.map (·.1)).Nodup ∧ ∀ x d, (x, d) ∈ S ↔ ∃ k : Nat, d = (k : Int) ∧ k ≤ n ∧ Dn G t k x
/-- in the midst of level n: p tells which tasks of the next level were met -/
def SMid (G : Graph) (t : Int) (n : Nat) (p : Int → Prop) (S : List (Int × Int)) (F : List Int) : Prop :=
  (S.map (·.1)).Nodup ∧ (∀ x d, (x, d) ∈ S ↔ (∃ k : Nat, d = (k : Int) ∧ k ≤ n ∧ Dn G t k x) ∨ (d = ((n + 1 : Nat) : Int) ∧ Dn G t (n + 1) x ∧ p x)) ∧ ∀ x, x ∈ F ↔ Dn G t (n + 1) x ∧ p x
theorem slv_zero : SLv G t 0 [(t, 0)] := by
  have d0 : Dn G t 0 t := ⟨rfl, fun m h => by omega⟩
  refine ⟨by simp, fun x d => ?_⟩
  rw [List.mem_singleton, Prod.mk.injEq]
  constructor
  · rintro ⟨rfl, rfl⟩
    exact ⟨0, rfl, Nat.le_refl _, d0⟩
  · rintro ⟨k, e, hk, hd⟩
    obtain rfl : k = 0 := Nat.le_zero.mp hk
    exact ⟨hd.1, e⟩
theorem smid_start {n : Nat} {S : List (Int × Int)} {p : Int → Prop} (h : SLv G t n S) (hp : ∀ x, ¬ p x) : SMid G t n p S [] := ⟨h.1, fun x d => by
    rw [h.2]
    exact ⟨.inl, fun z => z.elim id fun z => absurd z.2.2 (hp x)⟩, fun x => ⟨(fun m => nomatch m), fun z => absurd z.2 (hp x)⟩⟩
theorem smid_ext {n : Nat} {S : List (Int × Int)} {F : List Int} {p q : Int → Prop} (h : SMid G t n p S F) (e : ∀ x, p x ↔ q x) : SMid G t n q S F := by
  obtain rfl : p = q := funext fun x => propext (e x)
  exact h
theorem smid_end {n : Nat} {S : List (Int × Int)} {F : List Int} {p : Int → Prop} (h : SMid G t n p S F) (hp : ∀ x, Dn G t (n + 1) x → p x) : SLv G t (n + 1) S ∧ ∀ x, x ∈ F ↔ Dn G t (n + 1) x := by
  obtain ⟨h1, h2, h3⟩ := h
  refine ⟨⟨h1, fun x d => ?_⟩, fun x => by rw [h3]; exact ⟨fun z => z.1, fun z => ⟨z, hp x z⟩⟩⟩
  rw [h2]
  constructor
  · rintro (⟨k, e, hk, hd⟩ | ⟨e, hd, _⟩)
    · exact ⟨k, e, Nat.le_succ_of_le hk, hd⟩
    · exact ⟨n + 1, e, Nat.le_refl _, hd⟩
  · rintro ⟨k, e, hk, hd⟩
    rcases Nat.lt_or_ge n k with c | c
    · obtain rfl : k = n + 1 := by omega
      exact .inr ⟨e, hd, hp x hd⟩
    · exact .inl ⟨k, e, c, hd⟩
/-- one more comer y of a task g at level n -/
theorem smid_old {n : Nat} {S : List (Int × Int)} {F : List Int} {p : Int → Prop} {y : Int} (h : SMid G t n p S F) (hy : y ∈ S.map (·.1)) : SMid G t n (fun x => p x ∨ x = y) S F := by
  obtain ⟨h1, h2, h3⟩ := h
  obtain ⟨⟨y', d⟩, hm, rfl⟩ := List.mem_map.mp hy
  have key : Dn G t (n + 1) y' → p y' := fun hd => by
    rcases (h2 y' d).mp hm with ⟨k, e, hk, hk2⟩ | ⟨_, _, hp⟩
    · have := dn_uniq hd hk2
      omega
    · exact hp
  refine ⟨h1, fun x d' => ?_, fun x => ?_⟩
  · rw [h2]
    constructor
    · rintro (z | ⟨a, b, c⟩)
      · exact .inl z
      · exact .inr ⟨a, b, .inl c⟩
    · rintro (z | ⟨a, b, c | rfl⟩)
      · exact .inl z
      · exact .inr ⟨a, b, c⟩
      · exact .inr ⟨a, b, key b⟩
  · rw [h3]
    constructor
    · rintro ⟨a, b⟩
      exact ⟨a, .inl b⟩
    · rintro ⟨a, b | rfl⟩
      · exact ⟨a, b⟩
      · exact ⟨a, key a⟩
theorem smid_new {n : Nat} {S : List (Int × Int)} {F : List Int} {p : Int → Prop} {y g : Int} (h : SMid G t n p S F) (hg : Dn G t n g) (hy : g ∈ out G y) (hn : y ∉ S.map (·.1)) :
    SMid G t n (fun x => p x ∨ x = y) (S ++ [(y, ((n + 1 : Nat) : Int))]) (F ++ [y]) := by
  obtain ⟨h1, h2, h3⟩ := h
  have far : ∀ k : Nat, k ≤ n → ¬ Dn G t k y := fun k hk hd => hn (List.mem_map.mpr ⟨(y, (k : Int)), (h2 y k).mpr (.inl ⟨k, rfl, hk, hd⟩), rfl⟩)
  have hd : Dn G t (n + 1) y := ⟨⟨g, hy, hg.1⟩, fun m hm hr => by
    obtain ⟨k, hk, hd⟩ := dn_ex hr
    exact far k (by omega) hd⟩
  refine ⟨?_, fun x d => ?_, fun x => ?_⟩
  · rw [List.map_append, List.nodup_append]
    refine ⟨h1, by simp, fun a ha b hb e => ?_⟩
    have : b = y := by simpa using hb
    exact hn (by rw [← this, ← e]; exact ha)
  · rw [List.mem_append, h2, List.mem_singleton, Prod.mk.injEq]
    constructor
    · rintro ((z | ⟨a, b, c⟩) | ⟨rfl, rfl⟩)
      · exact .inl z
      · exact .inr ⟨a, b, .inl c⟩
      · exact .inr ⟨rfl, hd, .inr rfl⟩
    · rintro (z | ⟨a, b, c | rfl⟩)
      · exact .inl (.inl z)
      · exact .inl (.inr ⟨a, b, c⟩)
      · exact .inr ⟨rfl, a⟩
  · rw [List.mem_append, h3, List.mem_singleton]
    constructor
    · rintro (⟨a, b⟩ | rfl)
      · exact ⟨a, .inl b⟩
      · exact ⟨hd, .inr rfl⟩
    · rintro ⟨a, b | rfl⟩
      · exact .inl ⟨a, b⟩
      · exact .inr rfl
/-- what steps_to has found when nothing is at level n -/
def SAll (G : Graph) (t : Int) (S : List (Int × Int)) : Prop := (S.map (·.1)).Nodup ∧ ∀ x d, (x, d) ∈ S ↔ ∃ k : Nat, d = (k : Int) ∧ Dn G t k x
theorem slv_end {n : Nat} {S : List (Int × Int)} (h : SLv G t n S) (hn : ∀ x, ¬ Dn G t n x) : SAll G t S := ⟨h.1, fun x d => by
  rw [h.2]
  constructor
  · rintro ⟨k, e, _, hd⟩
    exact ⟨k, e, hd⟩
  · rintro ⟨k, e, hd⟩
    refine ⟨k, e, ?_, hd⟩
    rcases Nat.lt_or_ge n k with c | c
    · exact absurd hd (dn_none hn (Nat.le_of_lt c) x)
    · exact c⟩
theorem slv_len {n : Nat} {S : List (Int × Int)} (ht : t ∈ keys G) (h : SLv G t n S) : S.length ≤ (keys G).length := by
  have z := nodup_le (k := keys G) h.1 fun x hx => by
    obtain ⟨⟨y, d⟩, hm, rfl⟩ := List.mem_map.mp hx
    obtain ⟨k, _, _, hd⟩ := (h.2 y d).mp hm
    cases k with
    | zero =>
      have e : y = t := hd.1
      rw [e]
      exact ht
    | succ k => exact dn_key hd
  rw [List.length_map] at z
  exact z
theorem sall_far {S : List (Int × Int)} (h : SAll G t S) {x : Int} : x ∈ S.map (·.1) ↔ ∃ n, Rn G t n x := by
  constructor
  · intro hx
    obtain ⟨⟨y, d⟩, hm, rfl⟩ := List.mem_map.mp hx
    obtain ⟨k, _, hd⟩ := (h.2 y d).mp hm
    exact ⟨k, hd.1⟩
  · rintro ⟨n, hn⟩
    obtain ⟨k, _, hd⟩ := dn_ex hn
    exact List.mem_map.mpr ⟨(x, (k : Int)), (h.2 x k).mpr ⟨k, rfl, hd⟩, rfl⟩
theorem sall_len {S : List (Int × Int)} (ht : t ∈ keys G) (h : SAll G t S) : S.length ≤ (keys G).length := by
  have z := nodup_le (k := keys G) h.1 fun x hx => by
    obtain ⟨⟨y, d⟩, hm, rfl⟩ := List.mem_map.mp hx
    obtain ⟨k, _, hd⟩ := (h.2 y d).mp hm
    cases k with
    | zero =>
      have e : y = t := hd.1
      rw [e]
      exact ht
    | succ k => exact dn_key hd
  rw [List.length_map] at z
  exact z
end
end Cir

set_option Elab.async false
set_option linter.all false
set_option maxRecDepth 100000
namespace SB
open PySem L2 Evl
/-! ### a heap without what is known of one address -/
def hl (P : Addr) (H : Hp) : Hp := fun b => if b = P then none else H b
theorem hl_ne {P b : Addr} {H : Hp} (h : b ≠ P) : hl P H b = H b := if_neg h
theorem hl_le {P : Addr} {H : Hp} : Evl.Ex (hl P H) H := fun b o e => by
  by_cases h : b = P
  · rw [h] at e
    unfold hl at e
    rw [if_pos rfl] at e
    cases e
  · rw [hl_ne h] at e
    exact e
theorem hl_ex {P : Addr} {H H1 : Hp} (e : Evl.Ex H H1) : Evl.Ex (hl P H) (hl P H1) := fun b o q => by
  by_cases h : b = P
  · rw [h] at q
    unfold hl at q
    rw [if_pos rfl] at q
    cases q
  · rw [hl_ne h] at q ⊢
    exact e b o q
theorem hl_upd {P : Addr} {H : Hp} {o : HO} : hl P (upd H P o) = hl P H := funext fun b => by
  by_cases h : b = P
  · unfold hl
    rw [if_pos h, if_pos h]
  · rw [hl_ne h, hl_ne h, upd_ne h]
end SB

set_option Elab.async false
set_option linter.all false
set_option maxRecDepth 100000
namespace SB
open PySem L2 Evl
def topS (i : Nat) : Stmt := PySem.Challenge.pw_seedbed_k65_circles_of_waits.main.body.getD i (.Pass ⟨0, 0, 0, 0⟩)
structure Txt (K : PySem.W.Frag) (mg : Str → Option Value) : Prop where
  len_ : mg "len" = none
  int_ : mg "int" = none
  abs_ : mg "abs" = none
  min_ : mg "min" = none
  any_ : mg "any" = none
  sorted_ : mg "sorted" = none
  list_ : mg "list" = none
  isinstance_ : mg "isinstance" = none
  range_ : mg "range" = none
  repr_ : mg "repr" = none
theorem iT {b : Bool} {p q : Prop} (hb : b = true) (h : p) : if b = true then p else q := by rw [if_pos hb]; exact h
theorem iF {b : Bool} {p q : Prop} (hb : b = false) (h : q) : if b = true then p else q := by rw [if_neg (by rw [hb]; decide)]; exact h
/-! ### reasons -/
inductive Rsn where
  | time (o : Int) | task (o : Int) | send (o : Int) | res (n h : Int) | sel (o : Int) | recv (o : Int) | scope (s : Int) (ms : List Int)
def dat : Rsn → PyData
  | .time o => .tuple [.str "time", .int o]
  | .task o => .tuple [.str "task", .int o]
  | .send o => .tuple [.str "send", .int o]
  | .res n h => .tuple [.str "resource", .int n, .int h]
  | .sel o => .tuple [.str "select", .list [.tuple [.str "receive", .int o]]]
  | .recv o => .tuple [.str "receive", .int o]
  | .scope s ms => .tuple [.str "scope", .int s, .list (ms.map PyData.int)]
def nexts : Rsn → List Int
  | .task o => [o]
  | .res _ h => [h]
  | .scope _ ms => ms
  | _ => []
/-- all of its numbers -/
def nums : Rsn → List Int
  | .time o => [o]
  | .task o => [o]
  | .send o => [o]
  | .res n h => [n, h]
  | .sel o => [o]
  | .recv o => [o]
  | .scope s ms => s :: ms
theorem dpa_ints {K : PySem.W.Frag} {H : Hp} : ∀ {ns : List Int} {xs : List V}, DpAll K H xs (ns.map PyData.int) → xs = ns.map V.int
  | [], [], _ => rfl
  | [], _ :: _, h => nomatch h
  | _ :: _, [], h => nomatch h
  | n :: ns, x :: xs, .cons a b => by
    cases a
    rw [List.map_cons, dpa_ints b]
theorem ints_dpa {K : PySem.W.Frag} {H : Hp} : ∀ {ns : List Int}, DpAll K H (ns.map V.int) (ns.map PyData.int)
  | [] => .nil
  | n :: _ => .cons (.int n) ints_dpa
/-- what a reason is: a tuple of two or three -/
theorem dp_two {K : PySem.W.Frag} {H : Hp} {v : V} {w : Str} {o : Int} (h : Dp K H v (.tuple [.str w, .int o])) : ∃ a, v = .ref a ∧ SqT K H a [.str w, .int o] := by
  cases h with
  | tup a b =>
    cases b with
    | cons b1 b2 => cases b1; cases b2 with
      | cons b3 b4 => cases b3; cases b4; exact ⟨_, rfl, a⟩
theorem dp_res {K : PySem.W.Frag} {H : Hp} {v : V} {w : Str} {n o : Int} (h : Dp K H v (.tuple [.str w, .int n, .int o])) : ∃ a, v = .ref a ∧ SqT K H a [.str w, .int n, .int o] := by
  cases h with
  | tup a b =>
    cases b with
    | cons b1 b2 => cases b1; cases b2 with
      | cons b3 b4 => cases b3; cases b4 with
        | cons b5 b6 => cases b5; cases b6; exact ⟨_, rfl, a⟩
theorem dp_scope {K : PySem.W.Frag} {H : Hp} {v : V} {w : Str} {n : Int} {ms : List Int} (h : Dp K H v (.tuple [.str w, .int n, .list (ms.map PyData.int)])) : ∃ a p, v = .ref a ∧ SqT K H a [.str w, .int n, .ref p] ∧ SqL K H p (ms.map V.int) := by
  cases h with
  | tup a b =>
    cases b with
    | cons b1 b2 => cases b1; cases b2 with
      | cons b3 b4 => cases b3; cases b4 with
        | cons b5 b6 =>
          cases b6
          cases b5 with
          | lst c d =>
            rw [dpa_ints d] at c
            exact ⟨_, _, rfl, a, c⟩
theorem dp_sel {K : PySem.W.Frag} {H : Hp} {v : V} {w : Str} {d : List PyData} (h : Dp K H v (.tuple [.str w, .list d])) : ∃ a p, v = .ref a ∧ SqT K H a [.str w, .ref p] := by
  cases h with
  | tup a b =>
    cases b with
    | cons b1 b2 => cases b1; cases b2 with
      | cons b3 b4 =>
        cases b4
        cases b3 with
        | lst c d => exact ⟨_, _, rfl, a⟩
section
variable {P : Program} {w : World} {K : PySem.W.Frag} {mg : Str → Option Value} {base : Heap}
theorem one5 {v : V} : [v].length ≤ 100000 := by show 1 ≤ 100000; decide
def spNext (K : PySem.W.Frag) : Sp := fun vs H Q _ => ∃ (v : V) (r : Rsn), vs = [v] ∧ Dp K H v (dat r) ∧ ∀ p H', H p = none → Evl.Ex H H' → H' p = some (.lst ((nexts r).map V.int)) → Q (.ref p) H'
theorem c_list {X : Cx} : CallR X (.type "list") (rListS X.K) := call_list_of
abbrev s_goals_of : Stmt := topS 2
theorem sc_goals_of : FnScope ["reason", "goal", "goals"] ["reason"] (defScope s_goals_of) := ⟨rfl, rfl, rfl, by decide +kernel, rfl, by decide +kernel, by decide +kernel⟩
theorem ok_goals_of {f : Addr} {fd : FuncData} (F : Fun K "goals_of" "goals_of" s_goals_of f fd) (T : Txt K mg) : FnOk P w K mg base CX0 1 f fd ["reason"] (spNext K) := by
  refine F.ok sc_goals_of (fun vs H Q E h => ?_) (fun cdv A outer s H vs Q E hr h => ?_)
  · obtain ⟨v, r, rfl, _⟩ := h
    rfl
  obtain ⟨v, r, rfl, hd, q⟩ := h
  have nd := sc_goals_of.nd
  refine ⟨_, (pss_cons (ps_match (pv 0) (pc_seqW rfl nd ph_one (.cap (i := 1) rfl (by first | exact .inl rfl | exact .inr rfl) (by first | exact .inl rfl | exact .inr rfl) .nil) (pss_one (ps_ret (pe_lst (pa_cons (pv 1) pa_nil))))
      (pc_seqW rfl nd ph_one (.wild (.cap (i := 1) rfl (by first | exact .inl rfl | exact .inr rfl) (by first | exact .inl rfl | exact .inr rfl) .nil)) (pss_one (ps_ret (pe_lst (pa_cons (pv 1) pa_nil))))
      (pc_seqW rfl nd ph_one (.wild (.cap (i := 2) rfl (by first | exact .inl rfl | exact .inr rfl) (by first | exact .inl rfl | exact .inr rfl) .nil)) (pss_one (ps_ret (pe_callTy c_list (by rfl) T.list_ (by decide +kernel) (pa_cons (pv 2) pa_nil))))
      pc_nil))))
      (pss_one (ps_ret (pe_lst pa_nil)))), ?_⟩
  have fin : ∀ (σ : L2.St) (H1 : Hp), Evl.Ex H H1 → nexts r = [] → tRet (tLst tNil) { nx := fun _ H' => Q .non H', rt := Q } σ H1 := fun σ H1 e hn => s_retL (el_lst ea_nil (by decide)) fun p H2 hp e2 hv => q p H2 (fresh_back e hp) (e.trans e2) (by rw [hn]; exact hv)
  refine q_match (ev_var rfl) fun H1 e1 => ?_
  have sc : ∀ x y : Str, ∀ z ∈ [y], scal (.str x) (.str z) = true := fun x y z hz => by rw [List.mem_singleton.mp hz]; rfl
  have two : ∀ (x : Str) (o : V) (a : Addr), SqT K H1 a [.str x, o] → (decide (V.str x = V.str "task") = false) → nexts r = [] → tSeqW K ["task"] [some 1] (tRet (tLst (tCons (tVar 1) tNil))) (tSeqW K ["resource"] [none, some 1] (tRet (tLst (tCons (tVar 1) tNil))) (tSeqW K ["scope"] [none, some 2] (tRet (tCB (rListS K) (tCons (tVar 2) tNil))) fun _ D σ H => D.nx σ H)) (.ref a) { nx := fun σ' H' => tRet (tLst tNil) { nx := fun _ H' => Q .non H', rt := Q } σ' H', rt := Q } [some v, none, none] H1 := fun x o a ha hx hn =>
    ⟨a, _, rfl, ha, .inr ⟨_, _, rfl, rfl, sc _ _, iF (by rw [List.any_cons, List.any_nil, hx]; decide) ⟨a, _, rfl, ha, .inl ⟨by show ¬ (2 : Nat) = 3; decide, a, _, rfl, ha, .inl ⟨by show ¬ (2 : Nat) = 3; decide, fin [some v, none, none] H1 e1 hn⟩⟩⟩⟩⟩
  cases r with
  | time o =>
    obtain ⟨a, rfl, ha⟩ := dp_two (Dp.mono e1 hd)
    exact two _ _ a ha (by decide) rfl
  | send o =>
    obtain ⟨a, rfl, ha⟩ := dp_two (Dp.mono e1 hd)
    exact two _ _ a ha (by decide) rfl
  | recv o =>
    obtain ⟨a, rfl, ha⟩ := dp_two (Dp.mono e1 hd)
    exact two _ _ a ha (by decide) rfl
  | sel o =>
    obtain ⟨a, p, rfl, ha⟩ := dp_sel (Dp.mono e1 hd)
    exact two _ _ a ha (by decide) rfl
  | task o =>
    obtain ⟨a, rfl, ha⟩ := dp_two (Dp.mono e1 hd)
    exact ⟨a, _, rfl, ha, .inr ⟨_, _, rfl, rfl, sc _ _, iT (by decide) (s_retL (el_lst (ea_cons (ev_var rfl) ea_nil) one5) fun p H2 hp e2 hv => q p H2 (fresh_back e1 hp) (e1.trans e2) hv)⟩⟩
  | res n o =>
    obtain ⟨a, rfl, ha⟩ := dp_res (Dp.mono e1 hd)
    exact ⟨a, _, rfl, ha, .inl ⟨by show ¬ (3 : Nat) = 2; decide, a, _, rfl, ha, .inr ⟨_, _, rfl, rfl, sc _ _, iT (by decide) (s_retL (el_lst (ea_cons (ev_var rfl) ea_nil) one5) fun p H2 hp e2 hv => q p H2 (fresh_back e1 hp) (e1.trans e2) hv)⟩⟩⟩
  | scope s ms =>
    obtain ⟨a, pl, rfl, ha, hl⟩ := dp_scope (Dp.mono e1 hd)
    exact ⟨a, _, rfl, ha, .inl ⟨by show ¬ (3 : Nat) = 2; decide, a, _, rfl, ha, .inr ⟨_, _, rfl, rfl, sc _ _, iF (by decide) ⟨a, _, rfl, ha, .inr ⟨_, _, rfl, rfl, sc _ _, iT (by decide) (s_retL (el_list (ev_var rfl) hl) fun p H2 hp e2 hv => q p H2 (fresh_back e1 hp) (e1.trans e2) hv)⟩⟩⟩⟩⟩
abbrev s__law_next : Stmt := topS 10
theorem sc__law_next : FnScope ["reason"] ["reason"] (defScope s__law_next) := ⟨rfl, rfl, rfl, by decide +kernel, rfl, by decide +kernel, by decide +kernel⟩
theorem ok__law_next {f : Addr} {fd : FuncData} (F : Fun K "_law_next" "_law_next" s__law_next f fd) (T : Txt K mg) : FnOk P w K mg base CX0 1 f fd ["reason"] (spNext K) := by
  refine F.ok sc__law_next (fun vs H Q E h => ?_) (fun cdv A outer s H vs Q E hr h => ?_)
  · obtain ⟨v, r, rfl, _⟩ := h
    rfl
  obtain ⟨v, r, rfl, hd, q⟩ := h
  have nd := sc__law_next.nd
  refine ⟨_, (pss_cons (ps_if (pt_cmpR op_eq (pe_ix ix_tup (pv 0) pe_int (fun _ _ => rfl)) pe_str (nomark _)) (pss_one (ps_ret (pe_lst (pa_cons (pe_ix ix_tup (pv 0) pe_int (fun _ _ => rfl)) pa_nil)))) pss_nil)
      (pss_cons (ps_if (pt_cmpR op_eq (pe_ix ix_tup (pv 0) pe_int (fun _ _ => rfl)) pe_str (nomark _)) (pss_one (ps_ret (pe_lst (pa_cons (pe_ix ix_tup (pv 0) pe_int (fun _ _ => rfl)) pa_nil)))) pss_nil)
      (pss_cons (ps_if (pt_cmpR op_eq (pe_ix ix_tup (pv 0) pe_int (fun _ _ => rfl)) pe_str (nomark _)) (pss_one (ps_ret (pe_callTy c_list (by rfl) T.list_ (by decide +kernel) (pa_cons (pe_ix ix_tup (pv 0) pe_int (fun _ _ => rfl)) pa_nil)))) pss_nil)
      (pss_one (ps_ret (pe_lst pa_nil)))))), ?_⟩
  have word : ∀ (a : Addr) (xs : List V) (x y : Str) (b : Bool) (H1 : Hp), v = .ref a → SqT K H1 a xs → atI xs 0 = some (.str x) → decide (V.str x = V.str y) = b → EvT (tTest (tOp rEq (tOp (rIxT K) (tVar 0) (tC (.int 0))) (tC (.str y)))) [some v] H1 b := fun a xs x y b H1 ev hT hx hb => by
    subst ev
    exact et_is (et_test (ev_op (ev_ixT (ev_var rfl) ev_c hT hx) ev_c (rv_eq rfl))) hb
  have kind : (∃ o, r = .task o) ∨ (∃ n o, r = .res n o) ∨ (∃ n ms, r = .scope n ms) ∨ (nexts r = [] ∧ ∃ (a : Addr) (xs : List V) (x : Str), v = .ref a ∧ SqT K H a xs ∧ atI xs 0 = some (.str x) ∧ decide (V.str x = V.str "task") = false ∧ decide (V.str x = V.str "resource") = false ∧ decide (V.str x = V.str "scope") = false) := by
    cases r with
    | time o => exact .inr (.inr (.inr ⟨rfl, (dp_two hd).elim fun a z => ⟨a, _, _, z.1, z.2, rfl, by decide, by decide, by decide⟩⟩))
    | send o => exact .inr (.inr (.inr ⟨rfl, (dp_two hd).elim fun a z => ⟨a, _, _, z.1, z.2, rfl, by decide, by decide, by decide⟩⟩))
    | recv o => exact .inr (.inr (.inr ⟨rfl, (dp_two hd).elim fun a z => ⟨a, _, _, z.1, z.2, rfl, by decide, by decide, by decide⟩⟩))
    | sel o => exact .inr (.inr (.inr ⟨rfl, (dp_sel hd).elim fun a z => z.elim fun p z => ⟨a, _, _, z.1, z.2, rfl, by decide, by decide, by decide⟩⟩))
    | task o => exact .inl ⟨o, rfl⟩
    | res n o => exact .inr (.inl ⟨n, o, rfl⟩)
    | scope n ms => exact .inr (.inr (.inl ⟨n, ms, rfl⟩))
  rcases kind with ⟨o, rfl⟩ | ⟨n, o, rfl⟩ | ⟨n, ms, rfl⟩ | ⟨hn, a, xs, x, ev, hT, hx, h1, h2, h3⟩
  · obtain ⟨a, rfl, hT⟩ := dp_two hd
    refine q_when (word a _ _ _ true H rfl hT rfl (by decide)) (fun _ H1 e1 => ?_) (fun hb => nomatch hb)
    exact s_retL (el_lst (ea_cons (ev_ixT (ev_var rfl) ev_c (ex_t e1 hT) rfl) ea_nil) one5) fun p H2 hp e2 hv => q p H2 (fresh_back e1 hp) (e1.trans e2) hv
  · obtain ⟨a, rfl, hT⟩ := dp_res hd
    refine q_when (word a _ _ _ false H rfl hT rfl (by decide)) (fun hb => nomatch hb) fun _ H1 e1 => q_when (word a _ _ _ true H1 rfl (ex_t e1 hT) rfl (by decide)) (fun _ H2 e2 => ?_) (fun hb => nomatch hb)
    exact s_retL (el_lst (ea_cons (ev_ixT (ev_var rfl) ev_c (ex_t (e1.trans e2) hT) rfl) ea_nil) one5) fun p H3 hp e3 hv => q p H3 (fresh_back (e1.trans e2) hp) ((e1.trans e2).trans e3) hv
  · obtain ⟨a, p, rfl, hT, hL⟩ := dp_scope hd
    refine q_when (word a _ _ _ false H rfl hT rfl (by decide)) (fun hb => nomatch hb) fun _ H1 e1 => q_when (word a _ _ _ false H1 rfl (ex_t e1 hT) rfl (by decide)) (fun hb => nomatch hb) fun _ H2 e2 => q_when (word a _ _ _ true H2 rfl (ex_t (e1.trans e2) hT) rfl (by decide)) (fun _ H3 e3 => ?_) (fun hb => nomatch hb)
    exact s_retL (el_list (ev_ixT (ev_var rfl) ev_c (ex_t ((e1.trans e2).trans e3) hT) rfl) (ex_l ((e1.trans e2).trans e3) hL)) fun p H4 hp e4 hv => q p H4 (fresh_back ((e1.trans e2).trans e3) hp) (((e1.trans e2).trans e3).trans e4) hv
  · refine q_when (word a xs x _ false H ev hT hx h1) (fun hb => nomatch hb) fun _ H1 e1 => q_when (word a xs x _ false H1 ev (ex_t e1 hT) hx h2) (fun hb => nomatch hb) fun _ H2 e2 => q_when (word a xs x _ false H2 ev (ex_t (e1.trans e2) hT) hx h3) (fun hb => nomatch hb) fun _ H3 e3 => ?_
    exact s_retL (el_lst ea_nil (by decide)) fun p H4 hp e4 hv => q p H4 (fresh_back ((e1.trans e2).trans e3) hp) (((e1.trans e2).trans e3).trans e4) (by rw [hn]; exact hv)
/-! ### the script's cells, and digits -/
def spCell (K : PySem.W.Frag) : Sp := fun vs H Q _ => ∃ (a : Addr) (ns : List Int) (k : Nat), vs = [.ref a, .int k] ∧ SqL K H a (ns.map V.int) ∧ ∀ c : Int, 0 ≤ c → (c = 0 ∨ ∃ n ∈ ns, c = if n < 0 then -n else n) → Q (.int c) H
abbrev s__law_cell : Stmt := topS 7
theorem sc__law_cell : FnScope ["script", "k"] ["script", "k"] (defScope s__law_cell) := ⟨rfl, rfl, rfl, by decide +kernel, rfl, by decide +kernel, by decide +kernel⟩
theorem ok__law_cell {f : Addr} {fd : FuncData} (F : Fun K "_law_cell" "_law_cell" s__law_cell f fd) (T : Txt K mg) : FnOk P w K mg base CX0 1 f fd ["script", "k"] (spCell K) := by
  refine F.ok sc__law_cell (fun vs H Q E h => ?_) (fun cdv A outer s H vs Q E hr h => ?_)
  · obtain ⟨a, ns, k, rfl, _⟩ := h
    rfl
  obtain ⟨a, ns, k, rfl, hS, q⟩ := h
  refine ⟨_, (pss_cons (ps_if (pt_cmpR op_lt (pv 1) (pe_callB c_len (by rfl) T.len_ (by decide +kernel) (pa_cons (pv 0) pa_nil)) (nomark _)) (pss_one (ps_ret (pe_callB c_abs (by rfl) T.abs_ (by decide +kernel) (pa_cons (pe_callTy c_int (by rfl) T.int_ (by decide +kernel) (pa_cons (pe_ix ix_list (pv 0) (pv 1) (fun _ _ => rfl)) pa_nil)) pa_nil)))) pss_nil)
      (pss_one (ps_ret pe_int))), ?_⟩
  refine ⟨_, rfl, _, rfl, a, _, rfl, .inl hS, _, _, rfl, rfl, _, rfl, ?_⟩
  refine ite2 (fun c => ?_) (fun c => ?_)
  · have c' : (k : Int) < (((ns.map V.int).length : Nat) : Int) := of_decide_eq_true c
    rw [List.length_map] at c'
    have hk : k < ns.length := by omega
    exact ⟨_, rfl, _, rfl, a, _, _, _, rfl, rfl, hS, atI_nat (by rw [List.getElem?_map, List.getElem?_eq_getElem hk] <;> rfl), .inl ⟨_, rfl, _, rfl, q _ (by split <;> omega) (.inr ⟨_, List.getElem_mem hk, rfl⟩)⟩⟩
  · exact q 0 (Int.le_refl 0) (.inl rfl)
def spDigits (K : PySem.W.Frag) : Sp := fun vs H Q _ => ∃ c b n : Int, vs = [.int c, .int b, .int n] ∧ 0 ≤ c ∧ 0 < b ∧ b < 1000000 ∧ 0 ≤ n ∧ n ≤ 1000 ∧ ∀ p H' (ds : List Int), H p = none → Evl.Ex H H' → H' p = some (.lst (ds.map V.int)) → ds.length = n.toNat → (∀ d ∈ ds, 0 ≤ d ∧ d < b) → Q (.ref p) H'
abbrev s__law_digits : Stmt := topS 8
theorem sc__law_digits : FnScope ["cell", "base", "most", "digits", "large", "k"] ["cell", "base", "most"] (defScope s__law_digits) := ⟨rfl, rfl, rfl, by decide +kernel, rfl, by decide +kernel, by decide +kernel⟩
theorem ok__law_digits {f : Addr} {fd : FuncData} (F : Fun K "_law_digits" "_law_digits" s__law_digits f fd) (T : Txt K mg) : FnOk P w K mg base CX0 1 f fd ["cell", "base", "most"] (spDigits K) := by
  refine F.ok sc__law_digits (fun vs H Q E h => ?_) (fun cdv A outer s H vs Q E hr h => ?_)
  · obtain ⟨c, b, n, rfl, _⟩ := h
    rfl
  obtain ⟨c, b, n, rfl, hc, hb, hb2, hn, hn2, q⟩ := h
  have nd := sc__law_digits.nd
  refine ⟨_, (pss_cons (ps_set (i := 3) nd rfl (by first | exact .inl rfl | exact .inr rfl) (pe_lst pa_nil))
      (pss_cons (ps_set (i := 4) nd rfl (by first | exact .inl rfl | exact .inr rfl) (pe_cmpR op_ge (pv 0) (pe_op op_pow pe_int pe_int) (nomark _)))
      (pss_cons (ps_for PassesOwn.never rfl (pi_range1 rfl T.range_ (pa_cons (pv 2) pa_nil)) (pg_name (i := 5) nd rfl (by first | exact .inl rfl | exact .inr rfl))
      (pss_one (ps_if (pt_val (pv 4)) (pss_cons (ps_expr (pe_bm PySem.F.plainAttrs_list PySem.F.slot_list_append PySem.F.type_list_append mt_append (pv 3) (pa_cons (pe_op o_mod (pe_callTy c_int (by rfl) T.int_ (by decide +kernel) (pa_cons (pv 0) pa_nil)) (pv 1)) pa_nil)))
      (pss_one (ps_set (i := 0) nd rfl (by first | exact .inl rfl | exact .inr rfl) (pe_op op_fdivW (pv 0) (pv 1))))) (pss_one (ps_expr (pe_bm PySem.F.plainAttrs_list PySem.F.slot_list_append PySem.F.type_list_append mt_append (pv 3) (pa_cons (pe_op o_mod (pe_op o_mod (pe_callTy c_int (by rfl) T.int_ (by decide +kernel) (pa_cons (pe_op op_add (pe_op op_add (pe_op op_mul (pv 0) pe_int) (pe_op op_mul (pe_op op_mul (pe_op op_add (pv 5) pe_int) (pe_op op_add (pv 5) pe_int)) pe_int)) (pe_op op_mul (pe_op op_fdivW (pv 0) pe_int) (pv 5))) pa_nil)) pe_int) (pv 1)) pa_nil)))))))
      (pss_one (ps_ret (pv 3)))))), ?_⟩
  refine q_asgL (el_lst ea_nil (by decide)) fun p H1 hp s1 e1 => ?_
  refine q_asg (ev_op (ev_var rfl) (ev_op ev_c ev_c (rv_I ⟨by decide, by decide, by decide⟩)) rv_I0) fun H2 s2 => ?_
  generalize hL : decide ((10 : Int) ^ (18 : Int).toNat ≤ c) = large
  refine q_forR1 (ea_cons (ev_var rfl) ea_nil) ⟨hn, by omega⟩ (fun i σ H' => ∃ (c' : Int) (ds : List Int) (o5 : Option V), σ = [some (.int c'), some (.int b), some (.int n), some (.ref p), some (.bl large), o5] ∧ Evl.Ex H H' ∧ H' p = some (.lst (ds.map V.int)) ∧ ds.length = i ∧ (∀ d ∈ ds, 0 ≤ d ∧ d < b) ∧ 0 ≤ c' ∧ (large = false → c' < 10 ^ 18))
    (fun H3 s3 => ⟨c, [], none, rfl, (s1.trans s2).trans s3, s3 _ _ (s2 _ _ e1), rfl, (fun d h => nomatch h), hc, fun hl => ?_⟩) ?_ ?_
  · rw [hl] at hL
    have z := of_decide_eq_false hL
    have z2 : ¬ (10 : Int) ^ 18 ≤ c := z
    omega
  · rintro i σ H' hi ⟨c', ds, o5, rfl, S, hp', hlen, hds, hc', hl'⟩
    have hsz : (ds.map V.int).length < 100000 := by
      rw [List.length_map]
      omega
    refine s_if (et_B (ev_var rfl)) (fun hb1 H3 s3 => ?_) (fun hb1 H3 s3 => ?_)
    · refine q_app (s3 _ _ hp') (ev_var rfl) (ev_op (ev_int (ev_var rfl)) (ev_var rfl) (rv_I hb)) hsz fun H4 s4 => ?_
      refine s_asg (ev_op (ev_var rfl) (ev_var rfl) (rv_I (wide_div hb (b := 64) (by omega) (by decide) (by decide)))) fun H5 s5 => ?_
      refine ⟨c' / b, ds ++ [c' % b], _, rfl, (Ex.mut ((S.trans s3).trans s4) hp).trans s5, s5 _ _ ?_, by rw [List.length_append, hlen]; rfl, fun d hd => ?_, Int.ediv_nonneg hc' (by omega), fun z => by rw [z] at hb1; cases hb1⟩
      · rw [List.map_append]
        exact upd_same
      · rcases List.mem_append.mp hd with m | m
        · exact hds d m
        · rw [List.mem_singleton.mp m]
          exact ⟨Int.emod_nonneg _ (by omega), Int.emod_lt_of_pos _ hb⟩
    · have hc2 := hl' hb1
      have B0 : CMul c' 48271 := .inl ⟨by omega, by omega⟩
      have B1 : CMul ((i : Int) + 1) ((i : Int) + 5) := .inl ⟨by omega, by omega⟩
      have b1 : ((i : Int) + 1) * ((i : Int) + 5) ≤ 1001 * 1005 := Int.mul_le_mul (by omega) (by omega) (by omega) (by omega)
      have b0 : 0 ≤ ((i : Int) + 1) * ((i : Int) + 5) := Int.mul_nonneg (by omega) (by omega)
      have B2 : CMul (((i : Int) + 1) * ((i : Int) + 5)) 69621 := .inl ⟨by omega, by omega⟩
      have d0 : 0 ≤ c' / 97 := Int.ediv_nonneg hc' (by decide)
      have d1 : c' / 97 ≤ c' := Int.ediv_le_self 97 hc'
      have B3 : CMul (c' / 97) (i : Int) := .inl ⟨by omega, by omega⟩
      refine s_app (s3 _ _ hp') (ev_var rfl) (ev_op (ev_op (ev_int (ev_op (ev_op (ev_op (ev_var rfl) ev_c (rv_I B0)) (ev_op (ev_op (ev_op (ev_var rfl) ev_c rv_I0) (ev_op (ev_var rfl) ev_c rv_I0) (rv_I B1)) ev_c (rv_I B2)) rv_I0) (ev_op (ev_op (ev_var rfl) ev_c (rv_I (wide_div (by decide) (b := 64) (by decide) (by decide) (by decide)))) (ev_var rfl) (rv_I B3)) rv_I0)) ev_c (rv_I (by unfold CPos; decide))) (ev_var rfl) (rv_I hb)) hsz fun H4 s4 => ?_
      refine ⟨c', ds ++ [(c' * 48271 + ((i : Int) + 1) * ((i : Int) + 5) * 69621 + c' / 97 * (i : Int)) % 2147483647 % b], _, rfl, Ex.mut ((S.trans s3).trans s4) hp, ?_, by rw [List.length_append, hlen]; rfl, fun d hd => ?_, hc', hl'⟩
      · rw [List.map_append]
        exact upd_same
      · rcases List.mem_append.mp hd with m | m
        · exact hds d m
        · rw [List.mem_singleton.mp m]
          exact ⟨Int.emod_nonneg _ (by omega), Int.emod_lt_of_pos _ hb⟩
  · rintro σ H' ⟨c', ds, o5, rfl, S, hp', hlen, hds, _, _⟩
    exact s_ret (ev_var rfl) fun H3 s3 => q p H3 ds hp (S.trans s3) (s3 _ _ hp') hlen hds
end
end SB

set_option Elab.async false
set_option linter.all false
set_option maxRecDepth 100000
namespace SB
open PySem L2 Evl
section
variable {P : Program} {w : World} {K : PySem.W.Frag} {mg : Str → Option Value} {base : Heap}
theorem nd1 (x : Int) : [x].Nodup := List.nodup_cons.mpr ⟨by simp, List.nodup_nil⟩
def spWait (K : PySem.W.Frag) : Sp := fun vs H Q _ => ∃ (d : Int) (x : V), vs = [.int d, x] ∧ ∀ v H2 (r : Rsn), Evl.Ex H H2 → (∀ b, H b ≠ none → Dp K (hl b H2) v (dat r)) → (nexts r).length ≤ 10 → (nexts r).Nodup → (∀ i ∈ nums r, 0 ≤ i ∧ i < 100) → Q v H2
abbrev s__law_wait : Stmt := topS 9
theorem sc__law_wait : FnScope ["draw", "tasks", "way", "other", "members", "k"] ["draw", "tasks"] (defScope s__law_wait) := ⟨rfl, rfl, rfl, by decide +kernel, rfl, by decide +kernel, by decide +kernel⟩
theorem ok__law_wait {f : Addr} {fd : FuncData} (F : Fun K "_law_wait" "_law_wait" s__law_wait f fd) (T : Txt K mg) : FnOk P w K mg base CX0 1 f fd ["draw", "tasks"] (spWait K) := by
  refine F.ok sc__law_wait (fun vs H Q E h => ?_) (fun cdv A outer s H vs Q E hr h => ?_)
  · obtain ⟨d, x, rfl, _⟩ := h
    rfl
  obtain ⟨d, x, rfl, q⟩ := h
  have nd := sc__law_wait.nd
  refine ⟨_, (pss_cons (ps_set (i := 2) nd rfl (by first | exact .inl rfl | exact .inr rfl) (pe_op o_mod (pv 0) pe_int))
      (pss_cons (ps_set (i := 3) nd rfl (by first | exact .inl rfl | exact .inr rfl) (pe_op o_mod (pe_op op_fdivW (pv 0) pe_int) pe_int))
      (pss_cons (ps_if (pt_cmpR op_eq (pv 2) pe_int (nomark _)) (pss_one (ps_ret (pe_tup (pa_cons pe_str (pa_cons (pv 3) pa_nil))))) pss_nil)
      (pss_cons (ps_if (pt_cmpR op_lt (pv 2) pe_int (nomark _)) (pss_one (ps_ret (pe_tup (pa_cons pe_str (pa_cons (pv 3) pa_nil))))) pss_nil)
      (pss_cons (ps_if (pt_cmpR op_eq (pv 2) pe_int (nomark _)) (pss_one (ps_ret (pe_tup (pa_cons pe_str (pa_cons (pv 3) pa_nil))))) pss_nil)
      (pss_cons (ps_if (pt_cmpR op_eq (pv 2) pe_int (nomark _)) (pss_one (ps_ret (pe_tup (pa_cons pe_str (pa_cons (pe_op o_mod (pv 3) pe_int) (pa_cons (pe_op o_mod (pe_op op_fdivW (pv 0) pe_int) pe_int) pa_nil)))))) pss_nil)
      (pss_cons (ps_if (pt_cmpR op_eq (pv 2) pe_int (nomark _)) (pss_one (ps_ret (pe_tup (pa_cons pe_str (pa_cons (pe_lst (pa_cons (pe_tup (pa_cons pe_str (pa_cons (pv 3) pa_nil))) pa_nil)) pa_nil))))) pss_nil)
      (pss_cons (ps_if (pt_cmpR op_eq (pv 2) pe_int (nomark _)) (pss_one (ps_ret (pe_tup (pa_cons pe_str (pa_cons (pv 3) pa_nil))))) pss_nil)
      (pss_cons (ps_setLc (i := 4) (own := [("k", 5)]) (by rfl) nd rfl rfl (sw_true rfl rfl rfl (by decide +kernel)) (pi_range1 rfl T.range_ (pa_cons pe_int pa_nil)) (blkOk_by (own := [("k", 5)]) (N := ["draw", "tasks", "way", "other", "members", "k"]) (sc := defScope s__law_wait) (by decide +kernel)) (fun _ _ _ _ _ => (pg_name (i := 5) nd rfl (by first | exact .inl rfl | exact .inr rfl))) (fun _ _ _ _ _ => (pts_one (pt_cmpR op_eq (pe_op o_mod (pe_op op_fdivW (pv 0) (pe_op op_mul pe_int (pe_op op_add (pv 5) pe_int))) pe_int) pe_int (nomark _)))) (fun _ _ _ _ _ => (pv 5)))
      (pss_one (ps_ret (pe_tup (pa_cons pe_str (pa_cons (pv 3) (pa_cons (pv 4) pa_nil))))))))))))))), ?_⟩
  refine q_asg (ev_op (ev_var rfl) ev_c (rv_I (by unfold CPos; decide))) fun H1 s1 => ?_
  refine q_asg (ev_op (ev_op (ev_var rfl) ev_c (rv_I (wide_div (by decide) (b := 64) (by decide) (by decide) (by decide)))) ev_c (rv_I (by unfold CPos; decide))) fun H2 s2 => ?_
  have ho : 0 ≤ d / 9 % 10 ∧ d / 9 % 10 < 100 := by omega
  have off : ∀ {b p : Addr} {Hx : Hp} {u : HO}, H b ≠ none → H p = none → Hx p = some u → hl b Hx p = some u := fun {b p Hx u} hb hp hx => by rw [hl_ne fun z => hb (by rw [← z]; exact hp)]; exact hx
  have two : ∀ (y : Str) (o : Int) (σ : L2.St) (H3 : Hp) (r : Rsn), Evl.Ex H H3 → σ[3]? = some (some (.int o)) → dat r = .tuple [.str y, .int o] → (nexts r).length ≤ 10 → (nexts r).Nodup → nums r = [o] → 0 ≤ o ∧ o < 100 → tRet (tTup (tCons (tC (.str y)) (tCons (tVar 3) tNil))) { nx := fun _ H' => Q .non H', rt := Q } σ H3 := fun y o σ H3 r e hs hd hl hnd hnu ho =>
    s_retU (eu_tup (ea_cons ev_c (ea_cons (ev_var hs) ea_nil)) (by show 2 ≤ 100000; decide)) fun p H4 hp e4 h4 => q _ H4 r (e.trans e4) (fun b hb => by rw [hd]; exact .tup (st_of (off hb (fresh_back e hp) h4)) (.cons (.str y) (.cons (.int o) .nil))) hl hnd fun i hi => by rw [hnu] at hi; rw [List.mem_singleton.mp hi]; exact ho
  refine q_when (et_test (ev_op (ev_var rfl) ev_c (rv_eq rfl))) (fun _ H3 s3 => two _ _ _ H3 (.time _) ((s1.trans s2).trans s3) rfl rfl (Nat.zero_le _) List.nodup_nil rfl ho) fun _ H3 s3 => ?_
  refine q_when (et_test (ev_op (ev_var rfl) ev_c rv_I0)) (fun _ H4 s4 => two _ _ _ H4 (.task _) (((s1.trans s2).trans s3).trans s4) rfl rfl (by show 1 ≤ 10; decide) (nd1 _) rfl ho) fun _ H4 s4 => ?_
  refine q_when (et_test (ev_op (ev_var rfl) ev_c (rv_eq rfl))) (fun _ H5 s5 => two _ _ _ H5 (.send _) ((((s1.trans s2).trans s3).trans s4).trans s5) rfl rfl (Nat.zero_le _) List.nodup_nil rfl ho) fun _ H5 s5 => ?_
  have S5 := (((s1.trans s2).trans s3).trans s4).trans s5
  refine q_when (et_test (ev_op (ev_var rfl) ev_c (rv_eq rfl))) (fun _ H6 s6 => ?_) fun _ H6 s6 => ?_
  · refine s_retU (eu_tup (ea_cons ev_c (ea_cons (ev_op (ev_var rfl) ev_c (rv_I (by unfold CPos; decide))) (ea_cons (ev_op (ev_op (ev_var rfl) ev_c (rv_I (wide_div (by decide) (b := 64) (by decide) (by decide) (by decide)))) ev_c (rv_I (by unfold CPos; decide))) ea_nil))) (by show 3 ≤ 100000; decide)) fun p H7 hp e7 h7 => ?_
    exact q _ H7 (.res _ _) ((S5.trans s6).trans e7) (fun b hb => .tup (st_of (off hb (fresh_back (S5.trans s6) hp) h7)) (.cons (.str _) (.cons (.int _) (.cons (.int _) .nil)))) (by show 1 ≤ 10; decide) (nd1 _) fun i hi => by
      rcases List.mem_cons.mp hi with z | z
      · rw [z]; omega
      · rw [List.mem_singleton.mp z]; omega
  refine q_when (et_test (ev_op (ev_var rfl) ev_c (rv_eq rfl))) (fun _ H7 s7 => ?_) fun _ H7 s7 => ?_
  · refine ⟨_, rfl, by show 2 ≤ sizeLine; decide, fun p1 h1 => ⟨by show 1 ≤ sizeLine; decide, fun p2 h2 => ⟨by show 2 ≤ sizeLine; decide, fun p3 h3 => ?_⟩⟩⟩
    have n1 := Evl.Ex.new (o := .tup [.str "receive", .int (d / 9 % 10)]) h1
    have n2 := Evl.Ex.new (o := .lst [.ref p1]) h2
    have n3 := Evl.Ex.new (o := .tup [.str "select", .ref p2]) h3
    refine q _ _ (.sel (d / 9 % 10)) (((((S5.trans s6).trans s7).trans n1).trans n2).trans n3) (fun b hb => .tup (st_of (off hb (fresh_back ((((S5.trans s6).trans s7).trans n1).trans n2) h3) upd_same)) (.cons (.str _) (.cons (.lst (sq_of (off hb (fresh_back (((S5.trans s6).trans s7).trans n1) h2) (n3 _ _ upd_same))) (.cons (.tup (st_of (off hb (fresh_back ((S5.trans s6).trans s7) h1) (n3 _ _ (n2 _ _ upd_same)))) (.cons (.str _) (.cons (.int _) .nil))) .nil)) .nil))) (Nat.zero_le _) List.nodup_nil fun i hi => by rw [List.mem_singleton.mp hi]; exact ho
  refine q_when (et_test (ev_op (ev_var rfl) ev_c (rv_eq rfl))) (fun _ H8 s8 => two _ _ _ H8 (.recv _) (((S5.trans s6).trans s7).trans s8) rfl rfl (Nat.zero_le _) List.nodup_nil rfl ho) fun _ H8 s8 => ?_
  have S8 := ((S5.trans s6).trans s7).trans s8
  refine q_asgL (el_lcR1 (fun i => decide (V.int (d / (90 * ((i : Int) + 1)) % 3) = V.int 0)) (fun i => .int (i : Int)) (ea_cons ev_c ea_nil) (by decide) (fun x => rfl) (fun i H9 e9 hi => ?_) (fun i H9 e9 hi _ => ev_var rfl)) fun p H9 hp s9 e9 => ?_
  · have B : CMul 90 ((i : Int) + 1) := .inl ⟨by decide, by decide⟩
    exact et_test (ev_op (ev_op (ev_op (ev_var rfl) (ev_op ev_c (ev_op (ev_var rfl) ev_c rv_I0) (rv_I B)) (rv_I (wide_div (by omega) (b := 64) (by omega) (by decide) (by decide)))) ev_c (rv_I (by unfold CPos; decide))) ev_c (rv_eq rfl))
  · refine s_retU (eu_tup (ea_cons ev_c (ea_cons (ev_var rfl) (ea_cons (ev_var rfl) ea_nil))) (by show 3 ≤ 100000; decide)) fun p2 H10 hp2 e10 h10 => ?_
    have em : given (10 : Int).toNat (fun i => decide (V.int (d / (90 * ((i : Int) + 1)) % 3) = V.int 0)) (fun i => V.int (i : Int)) = (((List.range 10).filter fun i : Nat => decide (V.int (d / (90 * ((i : Int) + 1)) % 3) = V.int 0)).map fun i : Nat => (i : Int)).map V.int := by
      rw [List.map_map]
      rfl
    rw [em] at e9
    have hl : (((List.range 10).filter fun i : Nat => decide (V.int (d / (90 * ((i : Int) + 1)) % 3) = V.int 0)).map fun i : Nat => (i : Int)).length ≤ 10 := by
      rw [List.length_map]
      exact Nat.le_trans (List.length_filter_le _ _) (by rw [List.length_range]; exact Nat.le_refl _)
    have hnd : (((List.range 10).filter fun i : Nat => decide (V.int (d / (90 * ((i : Int) + 1)) % 3) = V.int 0)).map fun i : Nat => (i : Int)).Nodup := List.Pairwise.map _ (fun a b n e => n (by omega)) (List.Pairwise.filter _ List.nodup_range)
    exact q _ H10 (.scope _ _) ((S8.trans s9).trans e10) (fun b hb => .tup (st_of (off hb (fresh_back (S8.trans s9) hp2) h10)) (.cons (.str _) (.cons (.int _) (.cons (.lst (sq_of (off hb (fresh_back S8 hp) (e10 _ _ e9))) ints_dpa) .nil)))) hl hnd fun i hi => by
      rcases List.mem_cons.mp hi with z | z
      · rw [z]; exact ho
      · obtain ⟨j, hj, rfl⟩ := List.mem_map.mp z
        have := List.mem_range.mp (List.mem_filter.mp hj).1
        omega
end
end SB

set_option Elab.async false
set_option linter.all false
set_option maxRecDepth 100000
namespace SB
open PySem L2 Evl
/-! ### dicts from numbers to lists of numbers -/
/-- a key, where its list stands, the list -/
abbrev Ent := Int × Addr × List Int
def dkv (L : List Ent) : List (Key × V) := L.map fun e => (Sum.inl e.1, V.ref e.2.1)
def gOf (L : List Ent) : Cir.Graph := L.map fun e => (e.1, e.2.2)
theorem dkv_keys (L : List Ent) : (dkv L).map (·.1) = (L.map (·.1)).map Sum.inl := by
  unfold dkv
  rw [List.map_map, List.map_map]
  rfl
theorem keys_gOf (L : List Ent) : Cir.keys (gOf L) = L.map (·.1) := by
  unfold Cir.keys gOf
  rw [List.map_map]
  rfl
theorem nodup_inl {l : List Int} (h : l.Nodup) : (l.map (Sum.inl : Int → Key)).Nodup := List.Pairwise.map _ (fun a b n e => n (Sum.inl.inj e)) h
theorem dkv_some {L : List Ent} (nd : (L.map (·.1)).Nodup) {e : Ent} (h : e ∈ L) : valV (dkv L) (.inl e.1) = some (.ref e.2.1) :=
  valV_mem (p := (Sum.inl e.1, V.ref e.2.1)) (by rw [dkv_keys]; exact nodup_inl nd) (List.mem_map.mpr ⟨e, h, rfl⟩)
theorem dkv_none {L : List Ent} {g : Int} (h : g ∉ L.map (·.1)) : valV (dkv L) (.inl g) = none := valV_none (by
  rw [dkv_keys]
  intro m
  obtain ⟨x, hx, e⟩ := List.mem_map.mp m
  exact h (by rw [← Sum.inl.inj e]; exact hx))
theorem out_of : ∀ {L : List Ent}, (L.map (·.1)).Nodup → ∀ {e : Ent}, e ∈ L → Cir.out (gOf L) e.1 = e.2.2
  | [], _, _, h => nomatch h
  | f :: L, nd, e, h => by
    obtain ⟨n1, n2⟩ := List.nodup_cons.mp nd
    unfold Cir.out gOf
    rw [List.map_cons, List.find?_cons]
    by_cases q : f.1 = e.1
    · have ef : f = e := by
        rcases List.mem_cons.mp h with z | z
        · exact z.symm
        · exact absurd (show e.1 ∈ L.map (·.1) from List.mem_map.mpr ⟨e, z, rfl⟩) (by rw [← q]; exact n1)
      rw [ef]
      simp
    · have z : e ∈ L := by
        rcases List.mem_cons.mp h with z | z
        · exact absurd (by rw [z]) q
        · exact z
      have ih := out_of n2 z
      unfold Cir.out gOf at ih
      simp only [q, decide_false]
      exact ih
theorem ev_dgetR {σ : L2.St} {H : Hp} {td ty : TE} {a : Addr} {kvs : List (Key × V)} {k : Key} {v : V} (h : Ev td σ H (.ref a)) (hk : Ev ty σ H (kV k)) (hd : Rd H a (.dK kvs)) (hv : valV kvs k = some v) : Ev (tDGet td ty) σ H v := fun H1 e Q q =>
  h H1 e _ fun H2 e2 => hk H2 (e.trans e2) _ fun H3 e3 => ⟨a, v, rfl, .inl ⟨kvs, k, ex_rd ((e.trans e2).trans e3) hd, rfl, hv.symm⟩, q H3 (e2.trans e3)⟩
theorem ev_dinR {σ : L2.St} {H : Hp} {td ty : TE} {a : Addr} {kvs : List (Key × V)} {k : Key} (hk : Ev ty σ H (kV k)) (h : Ev td σ H (.ref a)) (hd : Rd H a (.dK kvs)) : Ev (tDIn ty td) σ H (.bl (valV kvs k).isSome) := fun H1 e Q q =>
  hk H1 e _ fun H2 e2 => h H2 (e.trans e2) _ fun H3 e3 => ⟨a, _, rfl, .inl ⟨kvs, k, ex_rd ((e.trans e2).trans e3) hd, rfl, rfl⟩, q H3 (e2.trans e3)⟩
theorem ev_dnotinR {σ : L2.St} {H : Hp} {td ty : TE} {a : Addr} {kvs : List (Key × V)} {k : Key} (hk : Ev ty σ H (kV k)) (h : Ev td σ H (.ref a)) (hd : Rd H a (.dK kvs)) : Ev (tDNotIn ty td) σ H (.bl (!(valV kvs k).isSome)) := fun H1 e Q q =>
  hk H1 e _ fun H2 e2 => h H2 (e.trans e2) _ fun H3 e3 => ⟨a, _, rfl, .inl ⟨kvs, k, ex_rd ((e.trans e2).trans e3) hd, rfl, rfl⟩, q H3 (e2.trans e3)⟩
theorem nd_inj {α β : Type} {f : α → β} : ∀ {l : List α}, (l.map f).Nodup → ∀ {a b : α}, a ∈ l → b ∈ l → f a = f b → a = b
  | x :: l, nd, a, b, ha, hb, e => by
    obtain ⟨n1, n2⟩ := List.nodup_cons.mp nd
    rcases List.mem_cons.mp ha with p | p
    · rcases List.mem_cons.mp hb with q | q
      · rw [p, q]
      · exact absurd (List.mem_map.mpr ⟨b, q, by rw [← e, p]⟩) n1
    · rcases List.mem_cons.mp hb with q | q
      · exact absurd (List.mem_map.mpr ⟨a, p, by rw [e, q]⟩) n1
      · exact nd_inj n2 p q e
/-! ### who waits for whom: the pairs that were taken in -/
def CInv (Z : List (Int × Int)) (C : List Ent) : Prop := (C.map (·.1)).Nodup ∧ (∀ g x, (∃ e ∈ C, e.1 = g ∧ x ∈ e.2.2) ↔ (x, g) ∈ Z) ∧ C.length ≤ Z.length ∧ ∀ e ∈ C, e.2.2.length ≤ Z.length
def more (g x : Int) (e : Ent) : Ent := if e.1 = g then (e.1, e.2.1, e.2.2 ++ [x]) else e
theorem more_key (g x : Int) (e : Ent) : (more g x e).1 = e.1 := by unfold more; split <;> rfl
theorem more_addr (g x : Int) (e : Ent) : (more g x e).2.1 = e.2.1 := by unfold more; split <;> rfl
theorem map_more {β : Type} (C : List Ent) (g x : Int) (f : Ent → β) (h : ∀ e, f (more g x e) = f e) : (C.map (more g x)).map f = C.map f := by
  rw [List.map_map]
  exact List.map_congr_left fun e _ => h e
theorem cinv_nil : CInv [] [] := ⟨List.nodup_nil, fun g x => ⟨(fun ⟨e, h, _⟩ => nomatch h), (fun h => nomatch h)⟩, Nat.le_refl _, (fun e h => nomatch h)⟩
theorem cinv_old {Z : List (Int × Int)} {C : List Ent} {e : Ent} {x : Int} (h : CInv Z C) (he : e ∈ C) : CInv (Z ++ [(x, e.1)]) (C.map (more e.1 x)) := by
  obtain ⟨h1, h2, h3, h4⟩ := h
  refine ⟨by rw [map_more C e.1 x (·.1) (more_key _ _)]; exact h1, fun g y => ?_, by rw [List.length_map, List.length_append]; omega, fun f hf => ?_⟩
  · rw [List.mem_append, List.mem_singleton, Prod.mk.injEq, ← h2]
    constructor
    · rintro ⟨f, hf, e1, hy⟩
      obtain ⟨f0, hf0, rfl⟩ := List.mem_map.mp hf
      rw [more_key] at e1
      unfold more at hy
      split at hy
      · rename_i c
        rcases List.mem_append.mp hy with m | m
        · exact .inl ⟨f0, hf0, e1, m⟩
        · exact .inr ⟨List.mem_singleton.mp m, by rw [← e1, c]⟩
      · exact .inl ⟨f0, hf0, e1, hy⟩
    · rintro (⟨f, hf, e1, hy⟩ | ⟨rfl, rfl⟩)
      · refine ⟨_, List.mem_map.mpr ⟨f, hf, rfl⟩, by rw [more_key]; exact e1, ?_⟩
        unfold more
        split
        · exact List.mem_append_left _ hy
        · exact hy
      · refine ⟨_, List.mem_map.mpr ⟨e, he, rfl⟩, more_key _ _ _, ?_⟩
        unfold more
        rw [if_pos rfl]
        exact List.mem_append_right _ (List.mem_singleton.mpr rfl)
  · obtain ⟨f0, hf0, rfl⟩ := List.mem_map.mp hf
    have := h4 f0 hf0
    rw [List.length_append]
    unfold more
    split
    · show (f0.2.2 ++ [x]).length ≤ _
      rw [List.length_append]
      show _ + 1 ≤ _ + 1
      omega
    · omega
theorem cinv_new {Z : List (Int × Int)} {C : List Ent} {g x : Int} {q : Addr} (h : CInv Z C) (hg : g ∉ C.map (·.1)) : CInv (Z ++ [(x, g)]) (C ++ [(g, q, [x])]) := by
  obtain ⟨h1, h2, h3, h4⟩ := h
  refine ⟨?_, fun g' y => ?_, by rw [List.length_append, List.length_append]; exact Nat.add_le_add_right h3 1, fun f hf => ?_⟩
  · rw [List.map_append, List.nodup_append]
    refine ⟨h1, by simp, fun a ha b hb e => ?_⟩
    have eb : b = g := by simpa using hb
    exact hg (by rw [← eb, ← e]; exact ha)
  · rw [List.mem_append, List.mem_singleton, Prod.mk.injEq, ← h2]
    constructor
    · rintro ⟨f, hf, e1, hy⟩
      rcases List.mem_append.mp hf with m | m
      · exact .inl ⟨f, m, e1, hy⟩
      · rw [List.mem_singleton.mp m] at e1 hy
        exact .inr ⟨List.mem_singleton.mp hy, e1.symm⟩
    · rintro (⟨f, hf, e1, hy⟩ | ⟨rfl, rfl⟩)
      · exact ⟨f, List.mem_append_left _ hf, e1, hy⟩
      · exact ⟨_, List.mem_append_right _ (List.mem_singleton.mpr rfl), rfl, List.mem_singleton.mpr rfl⟩
  · rw [List.length_append]
    rcases List.mem_append.mp hf with m | m
    · have := h4 f m
      omega
    · rw [List.mem_singleton.mp m]
      show 1 ≤ Z.length + 1
      omega
theorem dkv_more (C : List Ent) (g x : Int) : dkv (C.map (more g x)) = dkv C := map_more C g x _ fun e => by rw [more_key, more_addr]
/-- the dict of comers at cm, over the heap Hb -/
structure CHp (Hb H : Hp) (cm : Addr) (C : List Ent) : Prop where
  dct : H cm = some (.dK (dkv C))
  nd : (C.map (·.2.1)).Nodup
  at_ : ∀ e ∈ C, H e.2.1 = some (.lst (e.2.2.map V.int))
  new : ∀ e ∈ C, Hb e.2.1 = none
  ex : Evl.Ex Hb H
  cn : Hb cm = none
theorem CHp.mono {Hb H H1 : Hp} {cm : Addr} {C : List Ent} (h : CHp Hb H cm C) (e : Evl.Ex H H1) : CHp Hb H1 cm C := ⟨e _ _ h.dct, h.nd, fun f hf => e _ _ (h.at_ f hf), h.new, h.ex.trans e, h.cn⟩
/-- a list grows -/
theorem CHp.old {Hb H : Hp} {cm : Addr} {C : List Ent} {f : Ent} {x : Int} (h : CHp Hb H cm C) (hk : (C.map (·.1)).Nodup) (hf : f ∈ C) : CHp Hb (upd H f.2.1 (.lst ((f.2.2.map V.int) ++ [V.int x]))) cm (C.map (more f.1 x)) := by
  have ne : cm ≠ f.2.1 := fun e => by
    have z := h.dct
    rw [e, h.at_ f hf] at z
    cases z
  have inj : ∀ {e : Ent}, e ∈ C → e.2.1 = f.2.1 → e = f := fun {e} he q => by
    exact nd_inj h.nd he hf q
  have injk : ∀ {e : Ent}, e ∈ C → e.1 = f.1 → e = f := fun {e} he q => by
    exact nd_inj hk he hf q
  refine ⟨by rw [dkv_more, upd_ne ne]; exact h.dct, by rw [map_more C f.1 x (·.2.1) (more_addr _ _)]; exact h.nd, fun e he => ?_, fun e he => ?_, Ex.mut h.ex (h.new f hf), h.cn⟩
  · obtain ⟨e0, he0, rfl⟩ := List.mem_map.mp he
    rw [more_addr]
    by_cases q : e0.2.1 = f.2.1
    · obtain rfl := inj he0 q
      rw [upd_same]
      unfold more
      rw [if_pos rfl, List.map_append]
      rfl
    · rw [upd_ne q, h.at_ e0 he0]
      unfold more
      rw [if_neg fun z => q (by rw [injk he0 z])]
  · obtain ⟨e0, he0, rfl⟩ := List.mem_map.mp he
    rw [more_addr]
    exact h.new e0 he0
/-- a new list, a new key -/
theorem CHp.put {Hb H : Hp} {cm q : Addr} {C : List Ent} {g x : Int} (h : CHp Hb H cm C) (hg : g ∉ C.map (·.1)) (hq : H q = none) : CHp Hb (upd (upd (upd H q (.lst [])) cm (.dK (putK (dkv C) (.inl g) (.ref q)))) q (.lst [V.int x])) cm (C ++ [(g, q, [x])]) := by
  have ne : cm ≠ q := fun e => by
    have z := h.dct
    rw [e, hq] at z
    cases z
  have nq : ∀ e ∈ C, e.2.1 ≠ q := fun e he z => by
    have y := h.at_ e he
    rw [z, hq] at y
    cases y
  have nc : ∀ e ∈ C, e.2.1 ≠ cm := fun e he z => by
    have y := h.at_ e he
    rw [z, h.dct] at y
    cases y
  have qb : Hb q = none := fresh_back h.ex hq
  have ep : putK (dkv C) (.inl g) (.ref q) = dkv (C ++ [(g, q, [x])]) := by
    unfold putK dkv
    rw [if_neg, List.map_append]
    · rfl
    · intro z
      obtain ⟨p, hp, e⟩ := List.any_eq_true.mp z
      obtain ⟨f, hf, rfl⟩ := List.mem_map.mp hp
      exact hg (List.mem_map.mpr ⟨f, hf, Sum.inl.inj (of_decide_eq_true e)⟩)
  refine ⟨by rw [upd_ne ne, upd_same, ep], ?_, fun e he => ?_, fun e he => ?_, Ex.mut (Ex.mut (Ex.mut h.ex qb) h.cn) qb, h.cn⟩
  · rw [List.map_append, List.nodup_append]
    refine ⟨h.nd, by simp, fun a ha b hb e => ?_⟩
    have eb : b = q := by simpa using hb
    obtain ⟨f, hf, ef⟩ := List.mem_map.mp ha
    exact nq f hf (by rw [ef, e, eb])
  · rcases List.mem_append.mp he with m | m
    · rw [upd_ne (nq e m), upd_ne (nc e m), upd_ne (nq e m)]
      exact h.at_ e m
    · rw [List.mem_singleton.mp m]
      exact upd_same
  · rcases List.mem_append.mp he with m | m
    · exact h.new e m
    · rw [List.mem_singleton.mp m]
      exact qb
end SB

set_option Elab.async false
set_option linter.all false
set_option maxRecDepth 100000
namespace SB
open PySem L2 Evl
/-- the graph's dict in the heap -/
structure GAt (K : PySem.W.Frag) (H : Hp) (d : Addr) (L : List Ent) : Prop where
  dct : Rd H d (.dK (dkv L))
  at_ : ∀ e ∈ L, SqL K H e.2.1 (e.2.2.map V.int)
theorem GAt.mono {K : PySem.W.Frag} {H H1 : Hp} {d : Addr} {L : List Ent} (h : GAt K H d L) (e : Evl.Ex H H1) : GAt K H1 d L := ⟨ex_rd e h.dct, fun f hf => ex_l e (h.at_ f hf)⟩
structure LOk (L : List Ent) : Prop where
  nd : (L.map (·.1)).Nodup
  len : L.length ≤ 10
  few : ∀ e ∈ L, e.2.2.length ≤ 10
def zs (L : List Ent) : List (Int × Int) := L.flatMap fun e => e.2.2.map fun g => (e.1, g)
theorem zs_app (L M : List Ent) : zs (L ++ M) = zs L ++ zs M := List.flatMap_append
theorem zs_len : ∀ {L : List Ent}, (∀ e ∈ L, e.2.2.length ≤ 10) → (zs L).length ≤ 10 * L.length
  | [], _ => Nat.zero_le _
  | e :: L, h => by
    have h1 := h e List.mem_cons_self
    have h2 := zs_len (L := L) fun f hf => h f (List.mem_cons_of_mem _ hf)
    show (zs ([e] ++ L)).length ≤ _
    rw [zs_app, List.length_append, List.length_cons]
    have h3 : (zs [e]).length = e.2.2.length := by
      unfold zs
      rw [List.flatMap_cons, List.flatMap_nil, List.append_nil, List.length_map]
    omega
theorem zs_mem {L : List Ent} (nd : (L.map (·.1)).Nodup) {x g : Int} : (x, g) ∈ zs L ↔ g ∈ Cir.out (gOf L) x := by
  unfold zs
  rw [List.mem_flatMap]
  constructor
  · rintro ⟨e, he, hm⟩
    obtain ⟨g', hg, e2⟩ := List.mem_map.mp hm
    obtain ⟨rfl, rfl⟩ := Prod.mk.inj e2
    rw [out_of nd he]
    exact hg
  · intro h
    have hk := Cir.out_key h
    rw [keys_gOf] at hk
    obtain ⟨e, he, rfl⟩ := List.mem_map.mp hk
    rw [out_of nd he] at h
    exact ⟨e, he, List.mem_map.mpr ⟨g, h, rfl⟩⟩
theorem sq_lock {K : PySem.W.Frag} {H : Hp} {d a : Addr} {u : HO} {kvs : List (Key × V)} {xs : List V} (hd : H d = some (.dK kvs)) (h : SqL K H a xs) : SqL K (upd H d u) a xs := by
  rcases h with (h | ⟨o, h⟩) | h
  · have n : a ≠ d := fun e => by rw [e, hd] at h; cases h
    exact .inl (.inl (by rw [upd_ne n]; exact h))
  · have n : a ≠ d := fun e => by rw [e, hd] at h; cases h
    exact .inl (.inr ⟨o, by rw [upd_ne n]; exact h⟩)
  · exact .inr h
section
variable {P : Program} {w : World} {K : PySem.W.Frag} {mg : Str → Option Value} {base : Heap}
def spComers (K : PySem.W.Frag) : Sp := fun vs H Q _ => ∃ (d : Addr) (L : List Ent), vs = [.ref d] ∧ H d = some (.dK (dkv L)) ∧ (∀ e ∈ L, SqL K H e.2.1 (e.2.2.map V.int)) ∧ LOk L ∧
  ∀ p H' (C : List Ent), H p = none → Evl.Ex H H' → H' p = some (.dK (dkv C)) → (∀ e ∈ C, H' e.2.1 = some (.lst (e.2.2.map V.int))) → CInv (zs L) C → Q (.ref p) H'
abbrev s_comers_of : Stmt := topS 3
theorem sc_comers_of : FnScope ["goals", "comers", "task", "goal"] ["goals"] (defScope s_comers_of) := ⟨rfl, rfl, rfl, by decide +kernel, rfl, by decide +kernel, by decide +kernel⟩
theorem ok_comers_of {f : Addr} {fd : FuncData} (F : Fun K "comers_of" "comers_of" s_comers_of f fd) (T : Txt K mg) : FnOk P w K mg base CX0 1 f fd ["goals"] (spComers K) := by
  refine F.ok sc_comers_of (fun vs H Q E h => ?_) (fun cdv A outer s H vs Q E hr h => ?_)
  · obtain ⟨d, L, rfl, _⟩ := h
    rfl
  obtain ⟨d, L, rfl, hd, hat, ok, q⟩ := h
  have nd := sc_comers_of.nd
  refine ⟨_, (pss_cons (ps_set (i := 1) nd rfl (by first | exact .inl rfl | exact .inr rfl) pe_dnewK)
      (pss_cons (ps_lock (ps_for PassesOwn.never rfl (pi_keys (pv 0)) (pg_name (i := 2) nd rfl (by first | exact .inl rfl | exact .inr rfl))
      (pss_one (ps_for PassesOwn.never rfl (pi_list (pe_dget (hu_of hr) (pv 0) (pv 2) (fun _ _ => rfl))) (pg_name (i := 3) nd rfl (by first | exact .inl rfl | exact .inr rfl))
      (pss_one (ps_expr (pe_bm PySem.F.plainAttrs_list PySem.F.slot_list_append PySem.F.type_list_append mt_append (pe_dsetd (pv 1) (pv 3) (pe_lst pa_nil) ⟨rfl, rfl, rfl, rfl⟩) (pa_cons (pv 2) pa_nil))))))))
      (pss_one (ps_ret (pv 1))))), ?_⟩
  refine q_asgD fun cm H1 hcm s1 e1 => ?_
  have ncd : cm ≠ d := fun e => by rw [e, hd] at hcm; cases hcm
  refine ⟨d, _, s1 _ _ hd, trivial, fun od => ?_⟩
  generalize hHb : upd H d (.frz od (.dK (dkv L))) = Hb
  have hbd : Hb d = some (.frz od (.dK (dkv L))) := by rw [← hHb]; exact upd_same
  have hbc : Hb cm = none := by rw [← hHb, upd_ne ncd]; exact hcm
  have hbl : ∀ e ∈ L, SqL K Hb e.2.1 (e.2.2.map V.int) := fun e he => by rw [← hHb]; exact sq_lock hd (hat e he)
  have ex0 : Evl.Ex Hb (upd H1 d (.frz od (.dK (dkv L)))) := fun b o hb => by
    by_cases e : b = d
    · rw [e] at hb ⊢
      rw [hbd] at hb
      rw [upd_same]
      exact hb
    · rw [← hHb, upd_ne e] at hb
      rw [upd_ne e]
      exact s1 b o hb
  refine ⟨_, rfl, d, od, rfl, .inl ⟨dkv L, upd_same, for_it walk_keys (fun i σ H' => ∃ C o2 o3, σ = [some (.ref d), some (.ref cm), o2, o3] ∧ CInv (zs (L.take i)) C ∧ CHp Hb H' cm C) ?_ ?_ ?_ ?_⟩⟩
  · exact ⟨[], none, none, rfl, cinv_nil, ⟨by rw [upd_ne ncd]; exact e1, List.nodup_nil, (fun e he => nomatch he), (fun e he => nomatch he), ex0, hbc⟩⟩
  · rintro i σ H' _ ⟨C, o2, o3, _, _, hC⟩
    exact hC.ex _ _ hbd
  · rintro i x σ H2 H3 hi ⟨C, o2, o3, rfl, hZ, hC⟩ ⟨rfl, k, v, hk, rfl⟩
    unfold dkv at hk hi
    rw [List.length_map] at hi
    rw [List.getElem?_map, List.getElem?_eq_getElem hi] at hk
    obtain ⟨rfl, rfl⟩ := Prod.mk.inj (Option.some.inj hk)
    have he : L[i] ∈ L := List.getElem_mem hi
    generalize hL : L[i] = e at he ⊢
    refine s_forLn (ev_dgetR (k := Sum.inl e.1) (ev_var rfl) (ev_var rfl) (.inr ⟨od, hC.ex _ _ hbd⟩) (dkv_some ok.nd he)) (ex_l hC.ex (hbl e he)) (fun j σ H' => ∃ C o3, σ = [some (.ref d), some (.ref cm), some (.int e.1), o3] ∧ CInv (zs (L.take i) ++ (e.2.2.take j).map fun g => (e.1, g)) C ∧ CHp Hb H' cm C)
      (fun H4 s4 => ⟨C, o3, rfl, by rw [List.take_zero, List.map_nil, List.append_nil]; exact hZ, hC.mono s4⟩) (fun j σ H' _ ⟨C, o3, _, _, hC⟩ => ex_l hC.ex (hbl e he)) ?_ ?_
    · rintro j y σ H4 hj ⟨C, o3, rfl, hZ, hC⟩
      have hj2 : j < e.2.2.length := by
        have z := (List.getElem?_eq_some_iff.mp hj).1
        rw [List.length_map] at z
        exact z
      rw [List.getElem?_map, List.getElem?_eq_getElem hj2] at hj
      obtain rfl := Option.some.inj hj
      have hzl : (zs (L.take i) ++ (e.2.2.take j).map fun g => (e.1, g)).length ≤ 200 := by
        have z1 := zs_len (L := L.take i) fun f hf => ok.few f (List.mem_of_mem_take hf)
        rw [List.length_take] at z1
        rw [List.length_append, List.length_map, List.length_take]
        have := ok.few e he
        have := ok.len
        omega
      have enext : (zs (L.take i) ++ (e.2.2.take (j + 1)).map fun g => (e.1, g)) = (zs (L.take i) ++ (e.2.2.take j).map fun g => (e.1, g)) ++ [(e.1, e.2.2[j])] := by
        rw [List.take_succ_eq_append_getElem hj2, List.map_append, List.append_assoc]
        rfl
      have hcl : (dkv C).length < sizeLine := by
        unfold dkv
        rw [List.length_map]
        have := hZ.2.2.1
        exact sz_lt (by omega)
      generalize hgg : e.2.2[j] = g at enext ⊢
      refine ⟨_, rfl, cm, rfl, .inl ⟨_, .inl hC.dct⟩, _, rfl, by show 0 ≤ sizeLine; exact Nat.zero_le _, fun ql hq => ⟨dkv C, Sum.inl g, (by rw [upd_ne (fun z => by rw [← z, hC.dct] at hq; cases hq)]; exact hC.dct), rfl, hcl, fun v hv => ?_, fun hn => ?_⟩⟩
      · by_cases hg : g ∈ C.map (·.1)
        · obtain ⟨f, hf, rfl⟩ := List.mem_map.mp hg
          rw [dkv_some hZ.1 hf] at hv
          obtain rfl := Option.some.inj hv
          have hfl := hC.at_ f hf
          have nq : f.2.1 ≠ ql := fun z => by rw [z, hq] at hfl; cases hfl
          have hC2 := hC.mono (Evl.Ex.new (o := .lst []) hq)
          have hsz := hZ.2.2.2 f hf
          refine ⟨.inl ⟨rfl, _, sq_of (hC2.at_ f hf)⟩, _, rfl, f.2.1, f.2.2.map V.int, _, rfl, rfl, hC2.at_ f hf, by rw [List.length_map]; exact sz_lt (by omega), ?_⟩
          refine ⟨C.map (more f.1 e.1), some (.int f.1), rfl, by rw [enext]; exact cinv_old hZ hf, hC2.old hZ.1 hf⟩
        · rw [dkv_none hg] at hv
          cases hv
      · have hg : g ∉ C.map (·.1) := fun hg => by
          obtain ⟨f, hf, rfl⟩ := List.mem_map.mp hg
          rw [dkv_some hZ.1 hf] at hn
          cases hn
        have nqc : ql ≠ cm := fun z => by rw [z, hC.dct] at hq; cases hq
        have hql : upd (upd H4 ql (.lst [])) cm (.dK (putK (dkv C) (.inl g) (.ref ql))) ql = some (.lst []) := by rw [upd_ne nqc]; exact upd_same
        refine ⟨.inl ⟨rfl, _, sq_of hql⟩, _, rfl, ql, [], _, rfl, rfl, hql, by show 0 < sizeLine; decide, ?_⟩
        exact ⟨C ++ [(g, ql, [e.1])], some (.int g), rfl, by rw [enext]; exact cinv_new hZ hg, hC.put hg hq⟩
    · rintro σ H4 ⟨C, o3, rfl, hZ, hC⟩
      refine ⟨C, _, _, rfl, ?_, hC⟩
      rw [List.length_map, List.take_length] at hZ
      rw [List.take_succ_eq_append_getElem hi, zs_app, hL]
      unfold zs at hZ ⊢
      rw [List.flatMap_cons, List.flatMap_nil, List.append_nil]
      exact hZ
  · rintro σ H2 ⟨C, o2, o3, rfl, hZ, hC⟩
    have hlen : (dkv L).length = L.length := by unfold dkv; rw [List.length_map]
    rw [hlen, List.take_length] at hZ
    refine ⟨hC.ex _ _ hbd, s_ret (ev_var rfl) fun H3 s3 => q cm H3 C hcm (fun b o hb => s3 _ _ ?_) (s3 _ _ (by rw [upd_ne ncd]; exact hC.dct)) (fun e he => s3 _ _ ?_) hZ⟩
    · by_cases e : b = d
      · rw [e] at hb ⊢
        rw [hd] at hb
        rw [upd_same]
        exact hb
      · rw [upd_ne e]
        exact hC.ex _ _ (by rw [← hHb, upd_ne e]; exact hb)
    · have n : e.2.1 ≠ d := fun z => by
        have y := hC.new e he
        rw [z, hbd] at y
        cases y
      rw [upd_ne n]
      exact hC.at_ e he
end
end SB

set_option Elab.async false
set_option linter.all false
set_option maxRecDepth 100000
namespace SB
open PySem L2 Evl
/-! ### how far: a dict from numbers to numbers -/
def skv (S : List (Int × Int)) : List (Key × V) := S.map fun p => (Sum.inl p.1, V.int p.2)
theorem skv_keys (S : List (Int × Int)) : (skv S).map (·.1) = (S.map (·.1)).map Sum.inl := by
  unfold skv
  rw [List.map_map, List.map_map]
  rfl
theorem skv_some {S : List (Int × Int)} (nd : (S.map (·.1)).Nodup) {x d : Int} (h : (x, d) ∈ S) : valV (skv S) (.inl x) = some (.int d) :=
  valV_mem (p := (Sum.inl x, V.int d)) (by rw [skv_keys]; exact nodup_inl nd) (List.mem_map.mpr ⟨_, h, rfl⟩)
theorem skv_none {S : List (Int × Int)} {x : Int} (h : x ∉ S.map (·.1)) : valV (skv S) (.inl x) = none := valV_none (by
  rw [skv_keys]
  intro m
  obtain ⟨y, hy, e⟩ := List.mem_map.mp m
  exact h (by rw [← Sum.inl.inj e]; exact hy))
theorem skv_in {S : List (Int × Int)} (nd : (S.map (·.1)).Nodup) (x : Int) : (valV (skv S) (.inl x)).isSome = decide (x ∈ S.map (·.1)) := by
  by_cases h : x ∈ S.map (·.1)
  · obtain ⟨⟨y, d⟩, hm, rfl⟩ := List.mem_map.mp h
    rw [skv_some nd hm, decide_eq_true h]
    rfl
  · rw [skv_none h, decide_eq_false h]
    rfl
theorem skv_put {S : List (Int × Int)} {x d : Int} (h : x ∉ S.map (·.1)) : putK (skv S) (.inl x) (.int d) = skv (S ++ [(x, d)]) := by
  unfold putK skv
  rw [if_neg, List.map_append]
  · rfl
  · intro z
    obtain ⟨p, hp, e⟩ := List.any_eq_true.mp z
    obtain ⟨f, hf, rfl⟩ := List.mem_map.mp hp
    exact h (List.mem_map.mpr ⟨f, hf, Sum.inl.inj (of_decide_eq_true e)⟩)
theorem smid_len {G : Cir.Graph} {t : Int} {n : Nat} {S : List (Int × Int)} {F : List Int} {p : Int → Prop} (ht : t ∈ Cir.keys G) (h : Cir.SMid G t n p S F) : S.length ≤ (Cir.keys G).length := by
  have z := Cir.nodup_le (k := Cir.keys G) h.1 fun x hx => by
    obtain ⟨⟨y, d⟩, hm, rfl⟩ := List.mem_map.mp hx
    have far : ∀ k : Nat, Cir.Dn G t k y → y ∈ Cir.keys G := fun k hd => by
      cases k with
      | zero =>
        have e : y = t := hd.1
        rw [e]
        exact ht
      | succ k => exact Cir.dn_key hd
    rcases (h.2.1 y d).mp hm with ⟨k, _, _, hd⟩ | ⟨_, hd, _⟩
    · exact far k hd
    · exact far _ hd
  rw [List.length_map] at z
  exact z
theorem sq_upd {K : PySem.W.Frag} {H : Hp} {a b : Addr} {u : HO} {xs : List V} (n : a ≠ b) (h : SqL K H a xs) : SqL K (upd H b u) a xs := by
  rcases h with (h | ⟨o, h⟩) | h
  · exact .inl (.inl (by rw [upd_ne n]; exact h))
  · exact .inl (.inr ⟨o, by rw [upd_ne n]; exact h⟩)
  · exact .inr h
/-- the dict of comers, read -/
structure CmAt (K : PySem.W.Frag) (H : Hp) (cm : Addr) (G : Cir.Graph) (C : List Ent) : Prop where
  dct : Rd H cm (.dK (dkv C))
  nd : (C.map (·.1)).Nodup
  at_ : ∀ e ∈ C, SqL K H e.2.1 (e.2.2.map V.int)
  who : ∀ g x, (∃ e ∈ C, e.1 = g ∧ x ∈ e.2.2) ↔ g ∈ Cir.out G x
theorem CmAt.mono {K : PySem.W.Frag} {H H1 : Hp} {cm : Addr} {G : Cir.Graph} {C : List Ent} (h : CmAt K H cm G C) (e : Evl.Ex H H1) : CmAt K H1 cm G C := ⟨ex_rd e h.dct, h.nd, fun f hf => ex_l e (h.at_ f hf), h.who⟩
/-- what comers.get(g, []) is: a list that is there, or the new one -/
theorem CmAt.get {K : PySem.W.Frag} {H : Hp} {cm ql : Addr} {G : Cir.Graph} {C : List Ent} (h : CmAt K H cm G C) (g : Int) : ∃ (a : Addr) (cs : List Int), (valV (dkv C) (.inl g)).getD (.ref ql) = .ref a ∧ (∀ x, x ∈ cs ↔ g ∈ Cir.out G x) ∧ (SqL K H a (cs.map V.int) ∨ (a = ql ∧ cs = [])) := by
  by_cases hg : g ∈ C.map (·.1)
  · obtain ⟨e, he, rfl⟩ := List.mem_map.mp hg
    refine ⟨e.2.1, e.2.2, by rw [dkv_some h.nd he]; rfl, fun x => ?_, .inl (h.at_ e he)⟩
    rw [← h.who]
    exact ⟨fun m => ⟨e, he, rfl, m⟩, fun ⟨f, hf, e1, m⟩ => by rw [← nd_inj h.nd hf he e1]; exact m⟩
  · refine ⟨ql, [], by rw [dkv_none hg]; rfl, fun x => ?_, .inr ⟨rfl, rfl⟩⟩
    rw [← h.who]
    exact ⟨(fun m => nomatch m), fun ⟨f, hf, e1, _⟩ => absurd (List.mem_map.mpr ⟨f, hf, e1⟩) hg⟩
theorem tru_list {K : PySem.W.Frag} {σ : L2.St} {H : Hp} {i : Nat} {a : Addr} {xs : List V} (hi : σ[i]? = some (some (.ref a))) (h : SqL K H a xs) : EvT (fun σ H Q => tVar i σ H fun x H' => ∃ k, TruV K x H' k ∧ Q k H') σ H (!xs.isEmpty) := fun H1 e _ q => ⟨_, hi, _, (.inl ⟨_, ex_l e h, rfl⟩), q H1 (Evl.Ex.refl H1)⟩
section
variable {P : Program} {w : World} {K : PySem.W.Frag} {mg : Str → Option Value} {base : Heap}
def spSteps (K : PySem.W.Frag) : Sp := fun vs H Q _ => ∃ (t : Int) (cm : Addr) (G : Cir.Graph) (C : List Ent), vs = [.int t, .ref cm] ∧ CmAt K H cm G C ∧ t ∈ Cir.keys G ∧ (Cir.keys G).length ≤ 10 ∧
  ∀ p H' S, H p = none → Evl.Ex H H' → H' p = some (.dK (skv S)) → Cir.SAll G t S → Q (.ref p) H'
abbrev s_steps_to : Stmt := topS 4
theorem sc_steps_to : FnScope ["task", "comers", "steps", "reached", "further", "goal", "comer"] ["task", "comers"] (defScope s_steps_to) := ⟨rfl, rfl, rfl, by decide +kernel, rfl, by decide +kernel, by decide +kernel⟩
theorem ok_steps_to {f : Addr} {fd : FuncData} (F : Fun K "steps_to" "steps_to" s_steps_to f fd) (T : Txt K mg) : FnOk P w K mg base CX0 1 f fd ["task", "comers"] (spSteps K) := by
  refine F.ok sc_steps_to (fun vs H Q E h => ?_) (fun cdv A outer s H vs Q E hr h => ?_)
  · obtain ⟨t, cm, G, C, rfl, _⟩ := h
    rfl
  obtain ⟨t, cm, G, C, rfl, hC, ht, hG, q⟩ := h
  have nd := sc_steps_to.nd
  refine ⟨_, (pss_cons (ps_set (i := 2) nd rfl (by first | exact .inl rfl | exact .inr rfl) (pe_disp (pps_cons (pv 0) pe_int pps_nil) (by rfl) (by rfl) (fun z => by cases z) (by decide)))
      (pss_cons (ps_set (i := 3) nd rfl (by first | exact .inl rfl | exact .inr rfl) (pe_lst (pa_cons (pv 0) pa_nil)))
      (pss_cons (ps_while PassesOwn.never (pt_truth (pv 3) (fun _ => rfl))
      (pss_cons (ps_set (i := 4) nd rfl (by first | exact .inl rfl | exact .inr rfl) (pe_lst pa_nil))
      (pss_cons (ps_for PassesOwn.never rfl (pi_list (pv 3)) (pg_name (i := 5) nd rfl (by first | exact .inl rfl | exact .inr rfl))
      (pss_one (ps_for PassesOwn.never rfl (pi_list (pe_dget2 (hu_of hr) (pv 1) (pv 5) (pe_lst pa_nil) ⟨rfl, rfl, rfl, rfl⟩)) (pg_name (i := 6) nd rfl (by first | exact .inl rfl | exact .inr rfl))
      (pss_one (ps_if (pt_cmp (pc_dnotin (hu_of hr) (pv 6) (pv 2))) (pss_cons (ps_dput (hu_of hr) (pv 2) (pv 6) (pe_op op_add (pe_dget (hu_of hr) (pv 2) (pv 5) (fun _ _ => rfl)) pe_int) rfl)
      (pss_one (ps_expr (pe_bm PySem.F.plainAttrs_list PySem.F.slot_list_append PySem.F.type_list_append mt_append (pv 4) (pa_cons (pv 6) pa_nil))))) pss_nil)))))
      (pss_one (ps_set (i := 3) nd rfl (by first | exact .inl rfl | exact .inr rfl) (pv 4))))))
      (pss_one (ps_ret (pv 2)))))), ?_⟩
  refine fun sp hsp => ⟨_, rfl, upd_same, [(Sum.inl t, V.int 0)], rfl, by show 1 ≤ 15; decide, ?_⟩
  generalize hH1 : upd (upd H sp (.dK [])) sp (.dK (mergeK [] [(Sum.inl t, V.int 0)])) = H1
  have s1 : Evl.Ex H H1 := by rw [← hH1]; exact Ex.mut (Ex.new hsp) hsp
  have e1 : H1 sp = some (.dK (skv [(t, 0)])) := by rw [← hH1]; exact upd_same
  clear hH1
  refine q_asgL (el_lst (ea_cons (ev_var rfl) ea_nil) one5) fun rp H2 hrp s2 e2 => ?_
  refine q_while (fun m σ H' => ∃ (n : Nat) (S : List (Int × Int)) (R : List Int) (rp : Addr) (o4 o5 o6 : Option V), σ = [some (.int t), some (.ref cm), some (.ref sp), some (.ref rp), o4, o5, o6] ∧ Evl.Ex H H' ∧ H' sp = some (.dK (skv S)) ∧ H' rp = some (.lst (R.map V.int)) ∧ Cir.SLv G t n S ∧ (∀ x, x ∈ R ↔ Cir.Dn G t n x) ∧ m = 2 * (10 - S.length) + (if R = [] then 0 else 1))
    (2 * 9 + 1) ⟨0, [(t, 0)], [t], rp, none, none, none, rfl, s1.trans s2, s2 _ _ e1, e2, Cir.slv_zero, fun x => ?_, rfl⟩ ?_
  · rw [List.mem_singleton]
    exact ⟨fun e => ⟨e, fun m h => absurd h (Nat.not_lt_zero m)⟩, fun e => e.1⟩
  · rintro m σ H3 ⟨n, S, R, rp, o4, o5, o6, rfl, s3, e3, r3, hS, hR, rfl⟩
    have hSl := Cir.slv_len ht hS
    refine ⟨_, tru_list (xs := R.map V.int) rfl (sq_of r3), fun hb H4 s4 => ?_, fun hb H4 s4 => ?_⟩
    · have hRne : R ≠ [] := fun e => by rw [e] at hb; cases hb
      rw [if_neg hRne]
      refine ⟨fun σ' H' => ∃ (S' : List (Int × Int)) (R' : List Int) (rp' : Addr) (o4 o5 o6 : Option V), σ' = [some (.int t), some (.ref cm), some (.ref sp), some (.ref rp'), o4, o5, o6] ∧ Evl.Ex H H' ∧ H' sp = some (.dK (skv S')) ∧ H' rp' = some (.lst (R'.map V.int)) ∧ Cir.SLv G t (n + 1) S' ∧ (∀ x, x ∈ R' ↔ Cir.Dn G t (n + 1) x) ∧ S'.length = S.length + R'.length, ?_, ?_⟩
      · rintro σ2 H5 ⟨S', R', rp', a4, a5, a6, rfl, s5, e5, r5, hS', hR', hl⟩
        have hSl' := Cir.slv_len ht hS'
        refine ⟨_, ?_, n + 1, S', R', rp', a4, a5, a6, rfl, s5, e5, r5, hS', hR', rfl⟩
        split
        · omega
        · rename_i hne
          have := List.length_pos_iff.mpr hne
          omega
      refine q_asgL (el_lst ea_nil (by decide)) fun fp H5 hfp s5 e5 => ?_
      have S5 := (s3.trans s4).trans s5
      have nrf : rp ≠ fp := fun e => by rw [← e, s4 _ _ r3] at hfp; cases hfp
      have nsf : sp ≠ fp := fun e => by rw [← e, s4 _ _ e3] at hfp; cases hfp
      have hfH : H fp = none := fresh_back (s3.trans s4) hfp
      refine q_forLn (ev_var rfl) (sq_of (s5 _ _ (s4 _ _ r3))) (fun i σ H' => ∃ (S' : List (Int × Int)) (F : List Int) (o5 o6 : Option V), σ = [some (.int t), some (.ref cm), some (.ref sp), some (.ref rp), some (.ref fp), o5, o6] ∧ Evl.Ex H H' ∧ H' sp = some (.dK (skv S')) ∧ H' rp = some (.lst (R.map V.int)) ∧ H' fp = some (.lst (F.map V.int)) ∧
          Cir.SMid G t n (fun x => ∃ g ∈ R.take i, g ∈ Cir.out G x) S' F ∧ S'.length = S.length + F.length)
        (fun H6 s6 => ⟨S, [], o5, o6, rfl, S5.trans s6, s6 _ _ (s5 _ _ (s4 _ _ e3)), s6 _ _ (s5 _ _ (s4 _ _ r3)), s6 _ _ e5, Cir.smid_start hS fun x ⟨g, hg, _⟩ => (nomatch hg), rfl⟩)
        (fun i σ H' _ ⟨S', F, a5, a6, _, _, _, r, _⟩ => sq_of r) ?_ ?_
      · rintro i x σ H6 hi ⟨S', F, a5, a6, rfl, s6, e6, r6, f6, hM, hl⟩
        have hi2 : i < R.length := by
          have z := (List.getElem?_eq_some_iff.mp hi).1
          rw [List.length_map] at z
          exact z
        rw [List.getElem?_map, List.getElem?_eq_getElem hi2] at hi
        obtain rfl := Option.some.inj hi
        have hgD : Cir.Dn G t n R[i] := (hR _).mp (List.getElem_mem hi2)
        have htake : R.take (i + 1) = R.take i ++ [R[i]] := List.take_succ_eq_append_getElem hi2
        generalize hgg : R[i] = g at hgD htake ⊢
        have hC6 := hC.mono s6
        refine ⟨_, rfl, cm, rfl, .inl ⟨_, hC6.dct⟩, _, rfl, by show 0 ≤ sizeLine; exact Nat.zero_le _, fun ql hq => ⟨_, .inl ⟨_, Sum.inl g, ex_rd (Ex.new hq) hC6.dct, rfl, rfl⟩, ?_⟩⟩
        obtain ⟨a, cs, ea, hcs, hwh⟩ := hC.get (ql := ql) g
        rw [ea]
        have nq : ∀ b o, H6 b = some o → ql ≠ b := fun b o hb e => by rw [e, hb] at hq; cases hq
        have nqf := nq _ _ f6
        have nqs := nq _ _ e6
        have hqH : H ql = none := fresh_back s6 hq
        have keepA : ∀ H'', Evl.Ex H H'' → H'' ql = some (.lst []) → SqL K H'' a (cs.map V.int) := fun H'' e hn => by
          rcases hwh with h | ⟨rfl, rfl⟩
          · exact ex_l e h
          · exact sq_of hn
        have n6 := Ex.new (o := .lst []) hq
        refine s_forLn (tl := tC (.ref a)) (K := K) ev_c (keepA _ (s6.trans n6) upd_same) (fun j σ H' => ∃ (S' : List (Int × Int)) (F : List Int) (o6 : Option V), σ = [some (.int t), some (.ref cm), some (.ref sp), some (.ref rp), some (.ref fp), some (.int g), o6] ∧ Evl.Ex H H' ∧ H' sp = some (.dK (skv S')) ∧ H' rp = some (.lst (R.map V.int)) ∧ H' fp = some (.lst (F.map V.int)) ∧ H' ql = some (.lst []) ∧
            Cir.SMid G t n (fun x => (∃ g ∈ R.take i, g ∈ Cir.out G x) ∨ x ∈ cs.take j) S' F ∧ S'.length = S.length + F.length)
          (fun H7 s7 => ⟨S', F, a6, rfl, (s6.trans n6).trans s7, s7 _ _ (n6 _ _ e6), s7 _ _ (n6 _ _ r6), s7 _ _ (n6 _ _ f6), s7 _ _ upd_same, Cir.smid_ext hM fun x => ⟨.inl, fun z => z.elim id fun z => nomatch z⟩, hl⟩)
          (fun j σ H' _ ⟨_, _, _, _, s, _, _, _, hn, _⟩ => keepA _ s hn) ?_ ?_
        · rintro j y σ H7 hj ⟨S', F, a6, rfl, s7, e7, r7, f7, q7, hM, hl⟩
          have hj2 : j < cs.length := by
            have z := (List.getElem?_eq_some_iff.mp hj).1
            rw [List.length_map] at z
            exact z
          rw [List.getElem?_map, List.getElem?_eq_getElem hj2] at hj
          obtain rfl := Option.some.inj hj
          have hyo : g ∈ Cir.out G cs[j] := (hcs _).mp (List.getElem_mem hj2)
          have htk : ∀ x, x ∈ cs.take (j + 1) ↔ x ∈ cs.take j ∨ x = cs[j] := fun x => by rw [List.take_succ_eq_append_getElem hj2, List.mem_append, List.mem_singleton]
          generalize hyy : cs[j] = y at hyo htk ⊢
          have hSl2 := smid_len ht hM
          have nrf2 : rp ≠ fp := nrf
          have nrs : rp ≠ sp := fun e => by rw [e, e7] at r7; cases r7
          have ext : ∀ x, ((∃ g ∈ R.take i, g ∈ Cir.out G x) ∨ x ∈ cs.take j) ∨ x = y ↔ (∃ g ∈ R.take i, g ∈ Cir.out G x) ∨ x ∈ cs.take (j + 1) := fun x => by rw [htk, or_assoc]
          refine s_when (et_test (ev_dnotinR (k := Sum.inl y) (ev_var rfl) (ev_var rfl) (.inl e7))) (fun hb H8 s8 => ?_) (fun hb H8 s8 => ?_)
          · rw [skv_in hM.1, Bool.not_eq_true', decide_eq_false_iff_not] at hb
            have hgm : (g, (n : Int)) ∈ S' := (hM.2.1 g n).mpr (.inl ⟨n, rfl, Nat.le_refl _, hgD⟩)
            refine q_dput (k := Sum.inl y) (v := .int ((n : Int) + 1)) (ev_op (ev_dgetR (k := Sum.inl g) (ev_var rfl) (ev_var rfl) (.inl (s8 _ _ e7)) (skv_some hM.1 hgm)) ev_c rv_I0) (ev_var rfl) (ev_var rfl) (s8 _ _ e7) (by unfold skv; rw [List.length_map]; omega) fun H9 s9 => ?_
            rw [skv_put hb]
            have S9 := (s7.trans s8).trans s9
            refine s_app (xs := F.map V.int) (by rw [upd_ne (Ne.symm nsf)]; exact s9 _ _ (s8 _ _ f7)) (ev_var rfl) (ev_var rfl) (by rw [List.length_map]; omega) fun H10 s10 => ?_
            have E10 : Evl.Ex H H10 := (Ex.mut S9 hsp).trans s10
            have en : ((n : Int) + 1) = ((n + 1 : Nat) : Int) := by omega
            rw [en] at s10
            refine ⟨_, F ++ [y], _, rfl, Ex.mut E10 hfH, ?_, ?_, ?_, ?_, Cir.smid_ext (Cir.smid_new hM hgD hyo hb) ext, ?_⟩
            · rw [upd_ne nsf]
              exact s10 _ _ upd_same
            · rw [upd_ne nrf2]
              exact s10 _ _ (by rw [upd_ne nrs]; exact s9 _ _ (s8 _ _ r7))
            · rw [List.map_append]
              exact upd_same
            · rw [upd_ne nqf]
              exact s10 _ _ (by rw [upd_ne nqs]; exact s9 _ _ (s8 _ _ q7))
            · rw [List.length_append, List.length_append]
              show _ + 1 = _ + (_ + 1)
              omega
          · rw [skv_in hM.1] at hb
            have hb2 : y ∈ S'.map (·.1) := by simpa using hb
            exact ⟨S', F, _, rfl, s7.trans s8, s8 _ _ e7, s8 _ _ r7, s8 _ _ f7, s8 _ _ q7, Cir.smid_ext (Cir.smid_old hM hb2) ext, hl⟩
        · rintro σ H7 ⟨S', F, a6, rfl, s7, e7, r7, f7, q7, hM, hl⟩
          rw [List.length_map, List.take_length] at hM
          refine ⟨S', F, _, _, rfl, s7, e7, r7, f7, Cir.smid_ext hM fun x => ?_, hl⟩
          rw [hcs, htake]
          constructor
          · rintro (⟨g', hm, ho⟩ | ho)
            · exact ⟨g', List.mem_append_left _ hm, ho⟩
            · exact ⟨g, List.mem_append_right _ (List.mem_singleton.mpr rfl), ho⟩
          · rintro ⟨g', hm, ho⟩
            rcases List.mem_append.mp hm with z | z
            · exact .inl ⟨g', z, ho⟩
            · rw [List.mem_singleton.mp z] at ho
              exact .inr ho
      · rintro σ H6 ⟨S', F, a5, a6, rfl, s6, e6, r6, f6, hM, hl⟩
        rw [List.length_map, List.take_length] at hM
        obtain ⟨hS', hF⟩ := Cir.smid_end hM fun x hx => by
          obtain ⟨y, hy, hd⟩ := Cir.dn_succ hx
          exact ⟨y, (hR y).mpr hd, hy⟩
        exact s_asg (ev_var rfl) fun H7 s7 => ⟨S', F, fp, _, _, _, rfl, s6.trans s7, s7 _ _ e6, s7 _ _ f6, hS', hF, hl⟩
    · have hRe : R = [] := by
        cases R with
        | nil => rfl
        | cons _ _ => cases hb
      subst hRe
      exact s_ret (ev_var rfl) fun H5 s5 => q sp H5 S hsp ((s3.trans s4).trans s5) (s5 _ _ (s4 _ _ e3)) (Cir.slv_end hS fun x hx => nomatch (hR x).mpr hx)
end
end SB

set_option Elab.async false
set_option linter.all false
set_option maxRecDepth 100000
namespace SB
open PySem L2 Evl
/-- how far, as the dict says -/
def dS (S : List (Int × Int)) (g : Int) : Int := match S.find? fun p => decide (p.1 = g) with
  | some p => p.2
  | none => 0
theorem dS_of {S : List (Int × Int)} {g : Int} (h : g ∈ S.map (·.1)) : (g, dS S g) ∈ S := by
  unfold dS
  cases e : S.find? fun p => decide (p.1 = g) with
  | none =>
    obtain ⟨p, hp, rfl⟩ := List.mem_map.mp h
    have z := List.find?_eq_none.mp e p hp
    simp at z
  | some p =>
    have h1 := List.mem_of_find?_eq_some e
    have h2 : p.1 = g := by simpa using List.find?_some e
    rw [← h2]
    exact h1
theorem dS_far {G : Cir.Graph} {t g : Int} {S : List (Int × Int)} (h : Cir.SAll G t S) (hg : g ∈ S.map (·.1)) : ∃ k : Nat, dS S g = (k : Int) ∧ Cir.Dn G t k g := (h.2 g _).mp (dS_of hg)
theorem dn_down {G : Cir.Graph} {t : Int} : ∀ {n : Nat} {x : Int}, Cir.Dn G t n x → ∀ k, k ≤ n → ∃ y, Cir.Dn G t k y
  | 0, x, h, k, hk => ⟨x, by rw [Nat.le_zero.mp hk]; exact h⟩
  | n + 1, x, h, k, hk => by
    rcases Nat.lt_or_ge n k with c | c
    · obtain rfl : k = n + 1 := by omega
      exact ⟨x, h⟩
    · obtain ⟨y, _, hy⟩ := Cir.dn_succ h
      exact dn_down hy k c
theorem far_few {G : Cir.Graph} {t x : Int} {n : Nat} {S : List (Int × Int)} (h : Cir.SAll G t S) (hd : Cir.Dn G t n x) : n + 1 ≤ S.length := by
  have z := Cir.nodup_le (l := (List.range (n + 1)).map fun i : Nat => (i : Int)) (k := S.map (·.2)) (List.Pairwise.map _ (fun a b q e => q (by omega)) List.nodup_range) fun i hi => by
    obtain ⟨k, hk, rfl⟩ := List.mem_map.mp hi
    obtain ⟨y, hy⟩ := dn_down hd k (by have := List.mem_range.mp hk; omega)
    exact List.mem_map.mpr ⟨(y, (k : Int)), (h.2 y k).mpr ⟨k, rfl, hy⟩, rfl⟩
  rw [List.length_map, List.length_map, List.length_range] at z
  exact z
/-- what a comprehension over the goals gives, as numbers -/
theorem given_ints (n : Nat) (f : Nat → Bool) (v : Nat → Int) : given n f (fun i => .int (v i)) = (((List.range n).filter f).map v).map V.int := by
  unfold given
  rw [List.map_map]
  rfl
theorem mem_given {n : Nat} {f : Nat → Bool} {v : Nat → Int} {m : Int} : m ∈ ((List.range n).filter f).map v ↔ ∃ i, i < n ∧ f i = true ∧ v i = m := by
  rw [List.mem_map]
  constructor
  · rintro ⟨i, hi, e⟩
    obtain ⟨h1, h2⟩ := List.mem_filter.mp hi
    exact ⟨i, List.mem_range.mp h1, h2, e⟩
  · rintro ⟨i, h1, h2, e⟩
    exact ⟨i, List.mem_filter.mpr ⟨List.mem_range.mpr h1, h2⟩, e⟩
theorem getD_mem {l : List Int} {i : Nat} (h : i < l.length) : l.getD i 0 ∈ l := by
  rw [List.getD_eq_getElem?_getD, List.getElem?_eq_getElem h]
  exact List.getElem_mem h
theorem mem_getD {l : List Int} {x : Int} (h : x ∈ l) : ∃ i, i < l.length ∧ l.getD i 0 = x := by
  obtain ⟨i, hi, e⟩ := List.getElem_of_mem h
  exact ⟨i, hi, by rw [List.getD_eq_getElem?_getD, List.getElem?_eq_getElem hi]; exact e⟩
theorem get_ints {l : List Int} {i : Nat} {x : V} (h : (l.map V.int)[i]? = some x) : i < l.length ∧ x = .int (l.getD i 0) := by
  have z := (List.getElem?_eq_some_iff.mp h).1
  rw [List.length_map] at z
  rw [List.getElem?_map, List.getElem?_eq_getElem z] at h
  refine ⟨z, ?_⟩
  rw [List.getD_eq_getElem?_getD, List.getElem?_eq_getElem z]
  exact (Option.some.inj h).symm
section
variable {K : PySem.W.Frag} {σ : L2.St} {H : Hp} {te ta : TE} {ns : List Int} {a : Addr}
def isMin (ns : List Int) : VH := fun v _ => ∃ m, v = .int m ∧ m ∈ ns ∧ ∀ y ∈ ns, m ≤ y
theorem ep_min (h : EvL te σ H (ns.map V.int)) (hl : 0 < ns.length) : EvP (tCB (rMin K) (tCons te tNil)) σ H (isMin ns) := fun H1 e Q q =>
  h H1 e _ fun p H2 hp e2 hv => ⟨p, ns, rfl, sq_of hv, hl, fun m hm hmin => q _ H2 e2 ⟨m, rfl, hm, fun y hy => hmin y hy⟩⟩
theorem ep_minV (h : Ev te σ H (.ref a)) (hs : SqL K H a (ns.map V.int)) (hl : 0 < ns.length) : EvP (tCB (rMin K) (tCons te tNil)) σ H (isMin ns) := fun H1 e Q q =>
  h H1 e _ fun H2 e2 => ⟨a, ns, rfl, ex_l (e.trans e2) hs, hl, fun m hm hmin => q _ H2 e2 ⟨m, rfl, hm, fun y hy => hmin y hy⟩⟩
theorem qp_app {tz : TS} {D : Ends} {l : Addr} {xs : List V} {P : VH} (hl : H l = some (.lst xs)) (ha : Ev ta σ H (.ref l)) (h : EvP te σ H P) (hz : xs.length < 100000) (k : ∀ v H1, Evl.Ex H H1 → P v H1 → tz D σ (upd H1 l (.lst (xs ++ [v])))) :
    tSeq (tDrop (tBM K "list" rAppend ta (tCons te tNil))) tz D σ H :=
  ha H (.refl H) _ fun H1 e1 => ⟨.inl ⟨rfl, xs, sq_of (e1 _ _ hl)⟩, h H1 e1 _ fun v H2 e2 hp => ⟨l, xs, v, rfl, rfl, (e1.trans e2) _ _ hl, sz_lt hz, k v H2 (e1.trans e2) hp⟩⟩
end
section
variable {P : Program} {w : World} {K : PySem.W.Frag} {mg : Str → Option Value} {base : Heap}
def spShort (K : PySem.W.Frag) : Sp := fun vs H Q _ => ∃ (t : Int) (sp d : Addr) (S : List (Int × Int)) (L : List Ent), vs = [.int t, .ref sp, .ref d] ∧ Rd H sp (.dK (skv S)) ∧ Cir.SAll (gOf L) t S ∧ GAt K H d L ∧ LOk L ∧ t ∈ Cir.keys (gOf L) ∧ (∃ g ∈ Cir.out (gOf L) t, g ∈ S.map (·.1)) ∧
  ∀ p H' c, H p = none → Evl.Ex H H' → H' p = some (.lst (c.map V.int)) → Cir.Best (gOf L) t c → Q (.ref p) H'
abbrev s_shortest_circle : Stmt := topS 5
theorem sc_shortest_circle : FnScope ["task", "steps", "goals", "circle", "left", "nearer", "goal"] ["task", "steps", "goals"] (defScope s_shortest_circle) := ⟨rfl, rfl, rfl, by decide +kernel, rfl, by decide +kernel, by decide +kernel⟩
theorem ok_shortest_circle {f : Addr} {fd : FuncData} (F : Fun K "shortest_circle" "shortest_circle" s_shortest_circle f fd) (T : Txt K mg) : FnOk P w K mg base CX0 1 f fd ["task", "steps", "goals"] (spShort K) := by
  refine F.ok sc_shortest_circle (fun vs H Q E h => ?_) (fun cdv A outer s H vs Q E hr h => ?_)
  · obtain ⟨t, sp, d, S, L, rfl, _⟩ := h
    rfl
  obtain ⟨t, sp, d, S, L, rfl, hsp, hS, hGd, ok, htk, ⟨g0, hg0, hg0S⟩, q⟩ := h
  have nd := sc_shortest_circle.nd
  refine ⟨_, (pss_cons (ps_set (i := 3) nd rfl (by first | exact .inl rfl | exact .inr rfl) (pe_lst (pa_cons (pv 0) pa_nil)))
      (pss_cons (ps_set (i := 4) nd rfl (by first | exact .inl rfl | exact .inr rfl) (pe_callB (cr_min rfl) (by rfl) T.min_ (by decide +kernel) (pa_cons (pe_lc (own := [("goal", 6)]) (by rfl) nd (pi_list (pe_dget (hu_of hr) (pv 2) (pv 0) (fun _ _ => rfl))) (blkOk_by (own := [("goal", 6)]) (N := ["task", "steps", "goals", "circle", "left", "nearer", "goal"]) (sc := defScope s_shortest_circle) (by decide +kernel)) (fun _ _ _ _ _ => (pg_name (i := 6) nd rfl (by first | exact .inl rfl | exact .inr rfl))) (fun _ _ _ _ _ => (pts_one (pt_cmp (pc_din (hu_of hr) (pv 6) (pv 1))))) (fun _ _ _ _ _ => (pe_dget (hu_of hr) (pv 1) (pv 6) (fun _ _ => rfl)))) pa_nil)))
      (pss_cons (ps_while PassesOwn.never (pt_cmpR op_gt (pv 4) pe_int (nomark _))
      (pss_cons (ps_setLc (i := 5) (own := [("goal", 6)]) (by rfl) nd rfl rfl (sw_true rfl rfl rfl (by decide +kernel)) (pi_list (pe_dget (hu_of hr) (pv 2) (pe_ix ix_list (pv 3) (pe_un un_neg pe_int) (fun _ _ => rfl)) (fun _ _ => rfl))) (blkOk_by (own := [("goal", 6)]) (N := ["task", "steps", "goals", "circle", "left", "nearer", "goal"]) (sc := defScope s_shortest_circle) (by decide +kernel)) (fun _ _ _ _ _ => (pg_name (i := 6) nd rfl (by first | exact .inl rfl | exact .inr rfl))) (fun _ _ _ _ _ => (pts_one (PW.pt (pw_and (pt_cmp (pc_din (hu_of hr) (pv 6) (pv 1))) (pw_and1 (pt_cmpR op_eq (pe_dget (hu_of hr) (pv 1) (pv 6) (fun _ _ => rfl)) (pv 4) (nomark _))))))) (fun _ _ _ _ _ => (pv 6)))
      (pss_cons (ps_expr (pe_bm PySem.F.plainAttrs_list PySem.F.slot_list_append PySem.F.type_list_append mt_append (pv 3) (pa_cons (pe_callB (cr_min rfl) (by rfl) T.min_ (by decide +kernel) (pa_cons (pv 5) pa_nil)) pa_nil)))
      (pss_one (ps_aug (i := 4) nd rfl (by first | exact .inl rfl | exact .inr rfl) pe_int ip_sub)))))
      (pss_one (ps_ret (pv 3)))))), ?_⟩
  have ent : ∀ x, x ∈ Cir.keys (gOf L) → ∃ e ∈ L, e.1 = x ∧ Cir.out (gOf L) x = e.2.2 := fun x hx => by
    rw [keys_gOf] at hx
    obtain ⟨e, he, rfl⟩ := List.mem_map.mp hx
    exact ⟨e, he, rfl, out_of ok.nd he⟩
  refine q_asgL (el_lst (ea_cons (ev_var rfl) ea_nil) one5) fun cp H1 hcp s1 e1 => ?_
  obtain ⟨e0, he0, rfl, hout⟩ := ent t htk
  have hG1 := hGd.mono s1
  have far : ∀ g, g ∈ S.map (·.1) ↔ ∃ n, Cir.Rn (gOf L) e0.1 n g := fun g => Cir.sall_far hS
  -- left: how far the nearest goal is
  have hlc := el_lcL (K := K) (H := H1) (σ := [some (.int e0.1), some (.ref sp), some (.ref d), some (.ref cp), none, none, none]) (t := tB (tDIn (tVar 6) (tVar 1))) (te := tDGet (tVar 1) (tVar 6)) (tl := tDGet (tVar 2) (tVar 0)) (j := 6) (vs := [6]) (fun i => decide (e0.2.2.getD i 0 ∈ S.map (·.1))) (fun i => .int (dS S (e0.2.2.getD i 0)))
    (ev_dgetR (k := Sum.inl e0.1) (ev_var rfl) (ev_var rfl) hG1.dct (dkv_some ok.nd he0)) (hG1.at_ e0 he0) (by rw [List.length_map]; have := ok.few e0 he0; omega) (fun x => rfl)
    (fun i x H2 s2 hx => by
      obtain ⟨hi, rfl⟩ := get_ints hx
      have z := et_B (ev_dinR (k := Sum.inl (e0.2.2.getD i 0)) (ev_var (i := 6) (σ := [some (.int e0.1), some (.ref sp), some (.ref d), some (.ref cp), none, none, some (.int (e0.2.2.getD i 0))]) rfl) (ev_var (i := 1) rfl) (ex_rd (s1.trans s2) hsp))
      rw [skv_in hS.1] at z
      exact z)
    (fun i x H2 s2 hx hf => by
      obtain ⟨hi, rfl⟩ := get_ints hx
      exact ev_dgetR (k := Sum.inl (e0.2.2.getD i 0)) (ev_var rfl) (ev_var rfl) (ex_rd (s1.trans s2) hsp) (skv_some hS.1 (dS_of (of_decide_eq_true hf))))
  rw [List.length_map, given_ints] at hlc
  rw [hout] at hg0
  refine qp_asg (ep_min hlc (List.length_pos_iff.mpr fun z => ?_)) fun v H2 s2 ⟨m, ev, hm, hmin⟩ => ?_
  · obtain ⟨i, hi, e⟩ := mem_getD hg0
    have z2 : dS S g0 ∈ ((List.range e0.2.2.length).filter fun i => decide (e0.2.2.getD i 0 ∈ S.map (·.1))).map fun i => dS S (e0.2.2.getD i 0) := mem_given.mpr ⟨i, hi, decide_eq_true (by rw [e]; exact hg0S), by rw [e]⟩
    rw [z] at z2
    cases z2
  subst ev
  obtain ⟨i0, hi0, hf0, hm0⟩ := mem_given.mp hm
  obtain ⟨l0, hl0, hd0⟩ := dS_far hS (of_decide_eq_true hf0)
  have hml : m = (l0 : Int) := hm0.symm.trans hl0
  subst hml
  have hMn : Cir.Mn (gOf L) e0.1 l0 e0.1 := by
    rw [Cir.Mn, hout]
    refine ⟨⟨_, getD_mem hi0, hd0⟩, fun g hg n hn => ?_⟩
    have hgS := (far g).mpr ⟨n, hn⟩
    obtain ⟨k, hk, hkd⟩ := dS_far hS hgS
    obtain ⟨i, hi, e⟩ := mem_getD hg
    have z := hmin (dS S g) (mem_given.mpr ⟨i, hi, decide_eq_true (by rw [e]; exact hgS), by rw [e]⟩)
    rw [hk] at z
    have z2 : k ≤ n := by
      obtain ⟨k2, h1, h2⟩ := Cir.dn_ex hn
      rw [Cir.dn_uniq hkd h2]
      exact h1
    omega
  have hl10 : l0 + 1 ≤ 10 := by
    have z1 := far_few hS hd0
    have z2 := Cir.sall_len htk hS
    rw [keys_gOf, List.length_map] at z2
    have := ok.len
    omega
  clear hlc hm hmin
  refine q_while (fun m σ H' => ∃ (l : Nat) (A r0 : List Int) (x : Int) (o5 o6 : Option V), σ = [some (.int e0.1), some (.ref sp), some (.ref d), some (.ref cp), some (.int (l : Int)), o5, o6] ∧ Evl.Ex H H' ∧ H' cp = some (.lst ((e0.1 :: r0).map V.int)) ∧ e0.1 :: r0 = A ++ [x] ∧ Cir.Mn (gOf L) e0.1 l x ∧ (∀ r, Cir.Gre (gOf L) e0.1 l x r → Cir.Gre (gOf L) e0.1 l0 e0.1 (r0 ++ r)) ∧ l + r0.length = l0 ∧ l = m)
    l0 ⟨l0, [], [], e0.1, none, none, rfl, s1.trans s2, s2 _ _ e1, rfl, hMn, fun r h => h, rfl, rfl⟩ ?_
  rintro m σ H3 ⟨l, A, r0, x, o5, o6, rfl, s3, c3, hA, hM, hg, hlr, rfl⟩
  refine ⟨_, et_test (ev_op (ev_var rfl) ev_c rv_I0), fun hb H4 s4 => ?_, fun hb H4 s4 => ?_⟩
  · have hl : 0 < l := by
      have z : (0 : Int) < (l : Int) := of_decide_eq_true hb
      omega
    obtain ⟨l, rfl⟩ : ∃ k, l = k + 1 := ⟨l - 1, by omega⟩
    refine ⟨fun σ' H' => ∃ (A r0 : List Int) (x : Int) (o5 o6 : Option V), σ' = [some (.int e0.1), some (.ref sp), some (.ref d), some (.ref cp), some (.int (l : Int)), o5, o6] ∧ Evl.Ex H H' ∧ H' cp = some (.lst ((e0.1 :: r0).map V.int)) ∧ e0.1 :: r0 = A ++ [x] ∧ Cir.Mn (gOf L) e0.1 l x ∧ (∀ r, Cir.Gre (gOf L) e0.1 l x r → Cir.Gre (gOf L) e0.1 l0 e0.1 (r0 ++ r)) ∧ l + r0.length = l0, ?_, ?_⟩
    · rintro σ2 H5 ⟨A, r0, x, a5, a6, rfl, h1, h2, h3, h4, h5, h6⟩
      exact ⟨l, by omega, l, A, r0, x, a5, a6, rfl, h1, h2, h3, h4, h5, h6, rfl⟩
    obtain ⟨⟨g1, hg1, hd1⟩, _⟩ := id hM
    obtain ⟨ex, hex, rfl, hox⟩ := ent x (Cir.out_key hg1)
    have S4 := s3.trans s4
    have hG4 := hGd.mono S4
    have hci : atI ((e0.1 :: r0).map V.int) (-1) = some (.int ex.1) := by
      rw [hA, List.map_append]
      exact atI_last _ _
    have hlc := el_lcL (K := K) (H := H4) (σ := [some (.int e0.1), some (.ref sp), some (.ref d), some (.ref cp), some (.int ((l + 1 : Nat) : Int)), o5, o6]) (t := tAnd (tB (tDIn (tVar 6) (tVar 1))) (tTest (tOp rEq (tDGet (tVar 1) (tVar 6)) (tVar 4)))) (te := tVar 6)
      (tl := tDGet (tVar 2) (tOp (rIxL K) (tVar 3) (tUn (rU fun i => V.int (-i)) (tC (.int 1))))) (j := 6) (vs := [6]) (fun i => decide (ex.2.2.getD i 0 ∈ S.map (·.1)) && decide (V.int (dS S (ex.2.2.getD i 0)) = V.int ((l + 1 : Nat) : Int))) (fun i => .int (ex.2.2.getD i 0))
      (ev_dgetR (k := Sum.inl ex.1) (ev_var rfl) (ev_ixL (ev_var rfl) (ev_un ev_c ru_neg) (sq_of (s4 _ _ c3)) hci) hG4.dct (dkv_some ok.nd hex)) (hG4.at_ ex hex) (by rw [List.length_map]; have := ok.few ex hex; omega) (fun x => rfl)
      (fun i x H5 s5 hx => by
        obtain ⟨hi, rfl⟩ := get_ints hx
        have z := et_B (ev_dinR (k := Sum.inl (ex.2.2.getD i 0)) (ev_var (i := 6) (σ := [some (.int e0.1), some (.ref sp), some (.ref d), some (.ref cp), some (.int ((l + 1 : Nat) : Int)), o5, some (.int (ex.2.2.getD i 0))]) rfl) (ev_var (i := 1) rfl) (ex_rd (S4.trans s5) hsp))
        rw [skv_in hS.1] at z
        exact et_and z fun hf => et_test (ev_op (ev_dgetR (k := Sum.inl (ex.2.2.getD i 0)) (ev_var rfl) (ev_var rfl) (ex_rd (S4.trans s5) hsp) (skv_some hS.1 (dS_of (of_decide_eq_true hf)))) (ev_var rfl) (rv_eq rfl)))
      (fun i x H5 s5 hx hf => by
        obtain ⟨hi, rfl⟩ := get_ints hx
        exact ev_var rfl)
    rw [List.length_map, given_ints] at hlc
    have near : ∀ y, y ∈ ((List.range ex.2.2.length).filter fun i => decide (ex.2.2.getD i 0 ∈ S.map (·.1)) && decide (V.int (dS S (ex.2.2.getD i 0)) = V.int ((l + 1 : Nat) : Int))).map (fun i => ex.2.2.getD i 0) ↔ y ∈ Cir.out (gOf L) ex.1 ∧ Cir.Dn (gOf L) e0.1 (l + 1) y := fun y => by
      rw [mem_given, hox]
      constructor
      · rintro ⟨i, hi, hf, rfl⟩
        obtain ⟨h1, h2⟩ := Bool.and_eq_true_iff.mp hf
        obtain ⟨k, hk, hd⟩ := dS_far hS (of_decide_eq_true h1)
        have z : dS S (ex.2.2.getD i 0) = ((l + 1 : Nat) : Int) := V.int.inj (of_decide_eq_true h2)
        rw [hk] at z
        obtain rfl : k = l + 1 := by omega
        exact ⟨getD_mem hi, hd⟩
      · rintro ⟨hy, hd⟩
        obtain ⟨i, hi, e⟩ := mem_getD hy
        have hyS := (far y).mpr ⟨_, hd.1⟩
        obtain ⟨k, hk, hkd⟩ := dS_far hS hyS
        obtain rfl := Cir.dn_uniq hd hkd
        exact ⟨i, hi, by rw [e, hk, decide_eq_true hyS, decide_eq_true rfl]; rfl, e⟩
    refine q_asgL hlc fun np H5 hnp s5 e5 => ?_
    refine qp_app (s5 _ _ (s4 _ _ c3)) (ev_var rfl) (ep_minV (ev_var rfl) (sq_of e5) (List.length_pos_iff.mpr fun z => ?_)) (by rw [List.length_map, List.length_cons]; omega) fun v H6 s6 ⟨m, ev, hm, hmin⟩ => ?_
    · have z2 := (near g1).mpr ⟨hg1, hd1⟩
      rw [z] at z2
      cases z2
    subst ev
    obtain ⟨hmo, hmd⟩ := (near m).mp hm
    refine s_aug (f := fun i j => i - j) (a := ((l + 1 : Nat) : Int)) (b := 1) rfl ev_c fun H7 s7 => ⟨e0.1 :: r0, r0 ++ [m], m, some (.ref np), o6, ?_, (Ex.mut ((S4.trans s5).trans s6) hcp).trans s7, s7 _ _ ?_, rfl, Cir.mn_next hmd, fun r hr => ?_, by rw [List.length_append]; show l + (r0.length + 1) = l0; omega⟩
    · have z : ((l + 1 : Nat) : Int) - 1 = (l : Int) := by omega
      rw [z]
      rfl
    · rw [show e0.1 :: (r0 ++ [m]) = (e0.1 :: r0) ++ [m] from rfl, List.map_append]
      exact upd_same
    · have z := hg (m :: r) ⟨m, r, rfl, ⟨hmo, hmd⟩, fun y hy hyd => hmin y ((near y).mpr ⟨hy, hyd⟩), hr⟩
      rw [List.append_assoc]
      exact z
  · have hl : l = 0 := by
      have z : ¬ (0 : Int) < (l : Int) := of_decide_eq_false hb
      omega
    subst hl
    have z := hg [] rfl
    rw [List.append_nil] at z
    exact s_ret (ev_var rfl) fun H5 s5 => q cp H5 _ hcp ((s3.trans s4).trans s5) (s5 _ _ (s4 _ _ c3)) (Cir.gre_isBest hMn z)
end
end SB

set_option Elab.async false
set_option linter.all false
set_option maxRecDepth 100000
namespace SB
open PySem L2 Evl GxR
theorem hl_tab {P : Addr} {H H1 : Hp} (t : Tabbed P H H1) : Evl.Ex (hl P H) (hl P H1) := fun b o q => by
  by_cases h : b = P
  · rw [h] at q
    unfold hl at q
    rw [if_pos rfl] at q
    cases q
  · rw [hl_ne h] at q ⊢
    rw [t.2 b h]
    exact q
theorem tabG_ex {P : Addr} {H H1 : Hp} (t : TabG H P) (e : Evl.Ex H H1) : TabG H1 P := let ⟨ps, h, z⟩ := t; ⟨ps, e _ _ h, z⟩
theorem rd_hl {P : Addr} {H : Hp} {a : Addr} {u : HO} (t : TabG H P) (hu : ∀ q, u ≠ .tbl q) (h : Rd H a u) : Rd (hl P H) a u := by
  obtain ⟨ps, hp, _⟩ := t
  rcases h with h | ⟨o, h⟩
  · have n : a ≠ P := fun e => by
      rw [e, hp] at h
      exact hu ps (Option.some.inj h).symm
    exact .inl (by rw [hl_ne n]; exact h)
  · have n : a ≠ P := fun e => by
      rw [e, hp] at h
      cases h
    exact .inr ⟨o, by rw [hl_ne n]; exact h⟩
theorem sq_hl {K : PySem.W.Frag} {P : Addr} {H : Hp} {a : Addr} {xs : List V} (t : TabG H P) (h : SqL K H a xs) : SqL K (hl P H) a xs := h.imp (rd_hl t fun q z => nomatch z) id
theorem st_hl {K : PySem.W.Frag} {P : Addr} {H : Hp} {a : Addr} {xs : List V} (t : TabG H P) (h : SqT K H a xs) : SqT K (hl P H) a xs := h.imp (rd_hl t fun q z => nomatch z) id
theorem gat_hl {K : PySem.W.Frag} {P : Addr} {H : Hp} {d : Addr} {L : List Ent} (t : TabG H P) (h : GAt K H d L) : GAt K (hl P H) d L := ⟨rd_hl t (fun q z => nomatch z) h.dct, fun e he => sq_hl t (h.at_ e he)⟩
theorem cm_hl {K : PySem.W.Frag} {P : Addr} {H : Hp} {d : Addr} {G : Cir.Graph} {C : List Ent} (t : TabG H P) (h : CmAt K H d G C) : CmAt K (hl P H) d G C := ⟨rd_hl t (fun q z => nomatch z) h.dct, h.nd, fun e he => sq_hl t (h.at_ e he), h.who⟩
mutual
theorem Dp.hl {K : PySem.W.Frag} {P : Addr} {H : Hp} (t : TabG H P) : ∀ {v : V} {d : PyData}, Dp K H v d → Dp K (SB.hl P H) v d
  | _, _, .non => .non
  | _, _, .bl b => .bl b
  | _, _, .int i => .int i
  | _, _, .str x => .str x
  | _, _, .lst a b => .lst (sq_hl t a) (DpAll.hl t b)
  | _, _, .tup a b => .tup (st_hl t a) (DpAll.hl t b)
theorem DpAll.hl {K : PySem.W.Frag} {P : Addr} {H : Hp} (t : TabG H P) : ∀ {vs : List V} {ds : List PyData}, DpAll K H vs ds → DpAll K (SB.hl P H) vs ds
  | _, _, .nil => .nil
  | _, _, .cons a b => .cons (Dp.hl t a) (DpAll.hl t b)
end
/-! ### a dict comprehension over any walk -/
theorem dc_it {J : It} {n : Nat} {G : Hp → Prop} {Y : Nat → Hp → V → Hp → Prop} (wk : Walk J n G Y) {g : TG} {tt : TT} {tk tv : TE} {vs : List Nat} {σ : L2.St} {H1 : Hp} {D : Addr} {Qd : Hp → Prop} (Pv : Nat → Hp → Prop) (h0 : Pv 0 (upd H1 D (.dK []))) (hG : ∀ i H, i ≤ n → Pv i H → G H)
    (hs : ∀ i x H H', i < n → Pv i H → Y i H x H' → g x (wipe σ vs) H' fun σ2 H2 => wipe σ2 vs = wipe σ vs ∧ tt σ2 H2 fun b H3 => if b = true then tk σ2 H3 fun y H4 => tv σ2 H4 fun z H5 => ∃ kvs k, y = kV k ∧ H5 D = some (.dK kvs) ∧ kvs.length < sizeLine ∧ Pv (i + 1) (upd H5 D (.dK (putK kvs k z))) else Pv (i + 1) H3)
    (hd : ∀ H, Pv n H → Qd H) : ∃ W : Nat → Nat → Hp → Prop, (∃ m, W 0 m (upd H1 D (.dK []))) ∧ ∀ i m H, W i m H → (J.stop i H ∧ Qd H) ∨ (J.go i H ∧ ∃ Nx : Hp → Prop, (∀ H', Nx H' → ∃ m', m' < m ∧ W (i + 1) m' H') ∧ ∀ x H', J.yld i H x H' → g x (wipe σ vs) H' fun σ2 H2 => wipe σ2 vs = wipe σ vs ∧ tt σ2 H2 fun b H3 =>
      if b = true then tk σ2 H3 fun y H4 => tv σ2 H4 fun z H5 => ∃ kvs k, y = kV k ∧ H5 D = some (.dK kvs) ∧ kvs.length < sizeLine ∧ Nx (upd H5 D (.dK (putK kvs k z))) else Nx H3) := by
  refine ⟨fun i m H => m + i = n ∧ Pv i H, ⟨n, rfl, h0⟩, fun i m H ⟨hm, p⟩ => ?_⟩
  have q := hG i H (by omega) p
  by_cases c : i < n
  · exact .inr ⟨wk.goes i H c q, Pv (i + 1), fun H' p' => ⟨m - 1, by omega, by omega, p'⟩, fun x H' y => hs i x H H' c p (wk.yields i H x H' c q y)⟩
  · obtain rfl : i = n := by omega
    exact .inl ⟨wk.stops H q, hd H p⟩
theorem dput_ent {L : List Ent} {g : Int} {p : Addr} {ns : List Int} (h : g ∉ L.map (·.1)) : putK (dkv L) (.inl g) (.ref p) = dkv (L ++ [(g, p, ns)]) := by
  unfold putK dkv
  rw [if_neg, List.map_append]
  · rfl
  · intro z
    obtain ⟨p, hp, e⟩ := List.any_eq_true.mp z
    obtain ⟨f, hf, rfl⟩ := List.mem_map.mp hp
    exact h (List.mem_map.mpr ⟨f, hf, Sum.inl.inj (of_decide_eq_true e)⟩)
/-! ### waits -/
def datW (W : List (Int × Rsn)) : PyData := .list (W.map fun w => .tuple [.int w.1, dat w.2])
def gW (W : List (Int × Rsn)) : Cir.Graph := W.map fun w => (w.1, nexts w.2)
structure WOk (W : List (Int × Rsn)) : Prop where
  nd : (W.map (·.1)).Nodup
  len : W.length ≤ 8
  few : ∀ w ∈ W, (nexts w.2).length ≤ 10
  one : ∀ w ∈ W, (nexts w.2).Nodup
theorem dp_list {K : PySem.W.Frag} {H : Hp} {v : V} {ds : List PyData} (h : Dp K H v (.list ds)) : ∃ a xs, v = .ref a ∧ SqL K H a xs ∧ DpAll K H xs ds := by
  cases h with
  | lst a b => exact ⟨_, _, rfl, a, b⟩
theorem dp_pair {K : PySem.W.Frag} {H : Hp} {v : V} {t : Int} {d : PyData} (h : Dp K H v (.tuple [.int t, d])) : ∃ a x, v = .ref a ∧ SqT K H a [.int t, x] ∧ Dp K H x d := by
  cases h with
  | tup a b =>
    cases b with
    | cons b1 b2 =>
      cases b1
      cases b2 with
      | cons b3 b4 =>
        cases b4
        exact ⟨_, _, rfl, a, b3⟩
theorem dpa_get {K : PySem.W.Frag} {H : Hp} : ∀ {xs : List V} {ds : List PyData}, DpAll K H xs ds → xs.length = ds.length ∧ ∀ (i : Nat) (x : V) (d : PyData), xs[i]? = some x → ds[i]? = some d → Dp K H x d
  | _, _, .nil => ⟨rfl, (fun i x d h => nomatch h)⟩
  | _, _, .cons a b => by
    obtain ⟨h1, h2⟩ := dpa_get b
    refine ⟨by rw [List.length_cons, List.length_cons, h1], fun i x d hx hd => ?_⟩
    cases i with
    | zero =>
      cases hx
      cases hd
      exact a
    | succ i => exact h2 i x d hx hd
section
variable {P : Program} {w : World} {K : PySem.W.Frag} {mg : Str → Option Value} {base : Heap}
def rSortDI : List V → Hp → VK → Prop := fun xs H Q => ∃ (a : Addr) (kvs : List (Key × V)) (ks : List Int), xs = [.ref a] ∧ Rd H a (.dK kvs) ∧ kvs.map (·.1) = ks.map Sum.inl ∧ ks.length < 64 ∧ ∀ (ys : List Int) (p : Addr), ys.Perm ks → ys.Pairwise (· ≤ ·) → H p = none → Q (.ref p) (upd H p (.lst (ys.map V.int)))
theorem c_sortDI {X : Cx} (hc : X.calm = true := by rfl) : CallR X (.builtin "sorted") rSortDI := call_sortedDI hc
/-- what a search gives: None, or a new list -/
def isRes (res : Option (List Int)) (v : V) (H0 H : Hp) : Prop := match res with
  | none => v = .non
  | some c => ∃ p, v = .ref p ∧ H0 p = none ∧ H p = some (.lst (c.map V.int))
def spFirst (K : PySem.W.Frag) (TP : Addr) : Sp := fun vs H Q _ => ∃ (v : V) (W : List (Int × Rsn)), vs = [v] ∧ Dp K H v (datW W) ∧ WOk W ∧ TabG H TP ∧
  ∀ H', Evl.Ex (hl TP H) (hl TP H') → TabG H' TP → (∀ b, H' b = none → H b = none) → ∀ v' res, isRes res v' H H' → Cir.IsC (gW W) res → Q v' H'
abbrev s_first_circle : Stmt := topS 1
theorem sc_first_circle : FnScope ["waits", "goals", "comers", "task", "steps", "reason"] ["waits"] (defScope s_first_circle) := ⟨rfl, rfl, rfl, by decide +kernel, rfl, by decide +kernel, by decide +kernel⟩
theorem ok_first_circle {f c TP : Addr} {fd : FuncData} (F : Fun K "first_circle" "first_circle" s_first_circle f fd) (hfc : fd.code = .ref c) (TB : TabB base mg c TP) (T : Txt K mg)
    (F_goals_of : Fn P w K mg base 1 "goals_of" ["reason"] (spNext K)) (F_comers_of : Fn P w K mg base 1 "comers_of" ["goals"] (spComers K)) (F_steps_to : Fn P w K mg base 1 "steps_to" ["task", "comers"] (spSteps K)) (F_shortest_circle : Fn P w K mg base 1 "shortest_circle" ["task", "steps", "goals"] (spShort K)) :
    FnOk P w K mg base CX0 2 f fd ["waits"] (spFirst K TP) := by
  refine okC F hfc sc_first_circle (fun vs H Q E h => ?_) (fun A outer s H vs Q E hr h => ?_)
  · obtain ⟨v, W, rfl, _⟩ := h
    rfl
  obtain ⟨v, W, rfl, hD, ok, hT, q⟩ := h
  have nd := sc_first_circle.nd
  have hr_goals_of := hr
  have hr_comers_of := hr
  have hr_steps_to := hr
  have hr_shortest_circle := hr
  refine ⟨_, (pss_cons (ps_setDc (i := 1) (by rfl) (own := [("task", 3), ("reason", 5)]) (tt := tYes) nd rfl rfl (sw_dc rfl rfl rfl (by decide +kernel)) (pi_list (pv 0)) (blkOk_by (own := [("task", 3), ("reason", 5)]) (N := ["waits", "goals", "comers", "task", "steps", "reason"]) (sc := defScope s_first_circle) (by decide +kernel)) (fun _ _ _ _ _ => (pg_tupK (n := 2) K (by rfl) (by rfl) (pgs_cons (pg_name (i := 3) nd rfl (by first | exact .inl rfl | exact .inr rfl)) (pgs_cons (pg_name (i := 5) nd rfl (by first | exact .inl rfl | exact .inr rfl)) pgs_nil)))) (fun _ _ _ _ _ => pts_nil) (fun _ _ _ _ _ => (pv 3)) (fun _ _ _ _ _ => (pe_fn F_goals_of hr_goals_of (by rfl) (pa_cons (pv 5) pa_nil))))
      (pss_cons (ps_set (i := 2) nd rfl (by first | exact .inl rfl | exact .inr rfl) (pe_fn F_comers_of hr_comers_of (by rfl) (pa_cons (pv 1) pa_nil)))
      (pss_cons (ps_for PassesOwn.never rfl (pi_list (pe_callB c_sortDI (by rfl) T.sorted_ (by decide +kernel) (pa_cons (pv 1) pa_nil))) (pg_name (i := 3) nd rfl (by first | exact .inl rfl | exact .inr rfl))
      (pss_cons (ps_set (i := 4) nd rfl (by first | exact .inl rfl | exact .inr rfl) (pe_fn F_steps_to hr_steps_to (by rfl) (pa_cons (pv 3) (pa_cons (pv 2) pa_nil))))
      (pss_one (ps_if (pt_truth (pe_anyL hr (by rfl) T.any_ TB rfl ⟨rfl, rfl, by decide +kernel, rfl, rfl, (fun y hy e => by rcases hy with _ | ⟨_, _ | ⟨_, _ | ⟨_, hy⟩⟩⟩ <;> first | exact ⟨_, rfl⟩ | cases e | cases hy)⟩ (pe_dget (hu_of hr) (pv 1) (pv 3) (fun _ _ => rfl)) (tests_in (i := 4) rfl rfl rfl rfl rfl rfl) (fun _ => rfl)) (fun _ => rfl)) (pss_one (ps_ret (pe_fn F_shortest_circle hr_shortest_circle (by rfl) (pa_cons (pv 3) (pa_cons (pv 4) (pa_cons (pv 1) pa_nil)))))) pss_nil))))
      (pss_one (ps_ret pe_non))))), ?_⟩
  obtain ⟨wa, xs, rfl, hxs, hall⟩ := dp_list hD
  obtain ⟨hxl, hxd⟩ := dpa_get hall
  rw [List.length_map] at hxl
  have hTn : ∀ b o, H b = some o → (∀ z, o ≠ .tbl z) → b ≠ TP := fun b o hb ho e => by
    obtain ⟨z, h, _⟩ := hT
    rw [e, h] at hb
    exact ho z (Option.some.inj hb).symm
  refine ⟨_, rfl, wa, rfl, ⟨xs, hxs⟩, fun D hDn => dc_it (walk_list (K := K) (a := wa) (xs := xs)) (fun i H' => ∃ L : List Ent, H' D = some (.dK (dkv L)) ∧ gOf L = gW (W.take i) ∧ (∀ e ∈ L, H' e.2.1 = some (.lst (e.2.2.map V.int))) ∧ Evl.Ex H H') ?_ ?_ ?_ ?_⟩
  · exact ⟨[], upd_same, rfl, (fun e he => nomatch he), Ex.new hDn⟩
  · rintro i H' _ ⟨L, _, _, _, e⟩
    exact ex_l e hxs
  · rintro i x H1 H2 hi ⟨L, hd, hL, hat, ex⟩ ⟨rfl, hx⟩
    rw [hxl] at hi
    obtain ⟨pa, rv, rfl, hpa, hrv⟩ := dp_pair (hxd i x _ hx (by rw [List.getElem?_map, List.getElem?_eq_getElem hi]; rfl))
    refine ⟨pa, _, rfl, ex_t ex hpa, rfl, _, _, rfl, _, _, rfl, rfl, rfl, ?_⟩
    refine ⟨_, rfl, _, rfl, rv, W[i].2, rfl, Dp.mono ex hrv, fun p H3 hp ex3 hv => ⟨dkv L, Sum.inl W[i].1, rfl, ex3 _ _ hd, ?_, L ++ [(W[i].1, p, nexts W[i].2)], ?_⟩⟩
    · have z : (gOf L).length = (gW (W.take i)).length := by rw [hL]
      unfold gOf gW at z
      rw [List.length_map, List.length_map, List.length_take] at z
      unfold dkv
      rw [List.length_map]
      have := ok.len
      exact sz_lt (by omega)
    · have hkL : L.map (·.1) = (W.take i).map (·.1) := by
        rw [← keys_gOf, hL]
        unfold Cir.keys gW
        rw [List.map_map]
        rfl
      have hni : W[i].1 ∉ L.map (·.1) := by
        rw [hkL]
        intro m
        have z := ok.nd
        rw [← List.take_append_drop i W, List.map_append, List.nodup_append] at z
        refine z.2.2 _ m _ (List.mem_map.mpr ⟨W[i], ?_, rfl⟩) rfl
        rw [List.drop_eq_getElem_cons hi]
        exact List.mem_cons_self
      have nD : ∀ b, H3 b ≠ none → (∃ xs, H3 b = some (.lst xs)) → b ≠ D := fun b _ ⟨ys, hb⟩ e => by
        rw [e, ex3 _ _ hd] at hb
        cases hb
      refine ⟨by rw [upd_same, dput_ent hni], ?_, fun e he => ?_, Ex.mut (ex.trans ex3) hDn⟩
      · rw [List.take_succ_eq_append_getElem hi]
        unfold gOf gW at hL ⊢
        rw [List.map_append, List.map_append, hL]
        rfl
      · rcases List.mem_append.mp he with m | m
        · have z := ex3 _ _ (hat e m)
          rw [upd_ne (nD _ (by rw [z]; intro y; cases y) ⟨_, z⟩)]
          exact z
        · rw [List.mem_singleton.mp m, upd_ne (nD _ (by rw [hv]; intro y; cases y) ⟨_, hv⟩)]
          exact hv
  · rintro H1 ⟨L, hd, hL, hat, ex⟩
    rw [hxl, List.take_length] at hL
    have hLk : L.map (·.1) = W.map (·.1) := by
      rw [← keys_gOf, hL]
      unfold Cir.keys gW
      rw [List.map_map]
      rfl
    have okL : LOk L := by
      refine ⟨by rw [hLk]; exact ok.nd, ?_, fun e he => ?_⟩
      · have z : (L.map (·.1)).length = (W.map (·.1)).length := by rw [hLk]
        rw [List.length_map, List.length_map] at z
        have := ok.len
        omega
      · have z : (e.1, e.2.2) ∈ gW W := by
          rw [← hL]
          exact List.mem_map.mpr ⟨e, he, rfl⟩
        obtain ⟨w', hw, ew⟩ := List.mem_map.mp z
        obtain ⟨_, e2⟩ := Prod.mk.inj ew
        rw [← e2]
        exact ok.few w' hw
    have hatS : ∀ e ∈ L, SqL K H1 e.2.1 (e.2.2.map V.int) := fun e he => sq_of (hat e he)
    rw [← hL] at q
    refine ⟨_, rfl, D, L, rfl, hd, hatS, okL, fun cm H2 C hcm e2 hcd hca hZ => ?_⟩
    have hC2 : CmAt K H2 cm (gOf L) C := ⟨.inl hcd, hZ.1, fun e he => sq_of (hca e he), fun g x => by rw [hZ.2.1, zs_mem okL.nd]⟩
    refine ⟨_, rfl, D, dkv L, L.map (·.1), rfl, .inl (e2 _ _ hd), dkv_keys L, by rw [List.length_map]; have := okL.len; omega, fun ys yp hperm hsort hyp => ?_⟩
    have hT3 : TabG (upd H2 yp (.lst (ys.map V.int))) TP := tabG_ex hT ((ex.trans e2).trans (Ex.new hyp))
    generalize hH3 : upd H2 yp (.lst (ys.map V.int)) = H3 at hT3
    have e3 : Evl.Ex H2 H3 := by rw [← hH3]; exact Ex.new hyp
    have hy3 : H3 yp = some (.lst (ys.map V.int)) := by rw [← hH3]; exact upd_same
    have E3 := (ex.trans e2).trans e3
    have hG3 : GAt K (hl TP H3) D L := gat_hl hT3 ⟨.inl (e3 _ _ (e2 _ _ hd)), fun e he => ex_l (e2.trans e3) (hatS e he)⟩
    have hC3 : CmAt K (hl TP H3) cm (gOf L) C := cm_hl hT3 (hC2.mono e3)
    have hY3 : SqL K (hl TP H3) yp (ys.map V.int) := sq_hl hT3 (sq_of hy3)
    have back : ∀ {Hx : Hp}, Evl.Ex (hl TP H3) (hl TP Hx) → TabG Hx TP → ∀ b, Hx b = none → H b = none := fun {Hx} e t b hb => by
      have nb : b ≠ TP := fun z => by
        obtain ⟨ps, h, _⟩ := t
        rw [z, h] at hb
        cases hb
      have z : hl TP Hx b = none := by rw [hl_ne nb]; exact hb
      have z2 := fresh_back ((hl_ex E3).trans e) z
      rw [hl_ne nb] at z2
      exact z2
    have kG : ∀ u, u ∈ Cir.keys (gOf L) ↔ u ∈ ys := fun u => by
      rw [keys_gOf]
      exact (hperm.mem_iff).symm
    have ndY : ys.Nodup := hperm.nodup_iff.mpr okL.nd
    refine s_forLn (tl := tC (.ref yp)) (K := K) ev_c (sq_of hy3) (fun i σ H' => ∃ o3 o4, σ = [some (.ref wa), some (.ref D), some (.ref cm), o3, o4, none] ∧ Evl.Ex (hl TP H3) (hl TP H') ∧ TabG H' TP ∧ ∀ u ∈ ys.take i, ¬ Cir.CW (gOf L) u)
      (fun H4 e4 => ⟨none, none, rfl, hl_ex e4, tabG_ex hT3 e4, fun u hu => nomatch hu⟩) (fun i σ H' _ ⟨_, _, _, e, _⟩ => ex_l (e.trans hl_le) hY3) ?_ ?_
    · rintro i x σ H4 hi ⟨o3, o4, rfl, e4, t4, hno⟩
      obtain ⟨hi2, rfl⟩ := get_ints hi
      have hmem : ys.getD i 0 ∈ ys := getD_mem hi2
      have hki := (kG _).mpr hmem
      have htk : ys.take (i + 1) = ys.take i ++ [ys.getD i 0] := by
        rw [List.take_succ_eq_append_getElem hi2, List.getD_eq_getElem?_getD, List.getElem?_eq_getElem hi2]
        rfl
      have hless : ∀ u ∈ Cir.keys (gOf L), u < ys.getD i 0 → ¬ Cir.CW (gOf L) u := fun u hu hlt => by
        refine hno u ?_
        have z := (kG u).mp hu
        rw [← List.take_append_drop i ys] at z
        rcases List.mem_append.mp z with m | m
        · exact m
        · exfalso
          rw [List.drop_eq_getElem_cons hi2] at m
          have hd0 : ys.getD i 0 = ys[i] := by rw [List.getD_eq_getElem?_getD, List.getElem?_eq_getElem hi2]; rfl
          have hle : ys[i] ≤ u := by
            rcases List.mem_cons.mp m with e | m
            · rw [e]
              exact Int.le_refl _
            · have ps := hsort
              rw [← List.take_append_drop i ys, List.pairwise_append, List.drop_eq_getElem_cons hi2] at ps
              exact (List.pairwise_cons.mp ps.2.1).1 u m
          omega
      generalize htt : ys.getD i 0 = t at hmem hki htk hless ⊢
      obtain ⟨et, het, rfl⟩ : ∃ e ∈ L, e.1 = t := by
        rw [keys_gOf] at hki
        obtain ⟨e, he, z⟩ := List.mem_map.mp hki
        exact ⟨e, he, z⟩
      have hout := out_of okL.nd het
      refine ⟨_, rfl, _, rfl, et.1, cm, gOf L, C, rfl, hC3.mono (e4.trans hl_le), hki, by rw [keys_gOf, List.length_map]; exact okL.len, fun sp H5 S hsp e5 hS5 hSA => ?_⟩
      have t5 := tabG_ex t4 e5
      have e45 := e4.trans (hl_ex e5)
      refine ⟨_, rfl, _, rfl, D, _, rfl, .inl ⟨dkv L, Sum.inl et.1, (hG3.mono (e45.trans hl_le)).dct, rfl, (dkv_some okL.nd het).symm⟩, et.2.1, _, (fun j => (valV (skv S) (.inl (et.2.2.getD j 0))).isSome), rfl, (hG3.mono (e45.trans hl_le)).at_ et het, t5, ⟨sp, skv S, et.2.2, rfl, hS5, rfl, fun j k hk => ?_⟩, fun H6 t6 => ⟨_, rfl, ?_⟩⟩
      · show (valV (skv S) (.inl (et.2.2.getD j 0))).isSome = _
        rw [List.getD_eq_getElem?_getD, hk]
        rfl
      have e56 := e45.trans (hl_tab t6)
      have hany : (List.range (et.2.2.map V.int).length).any (fun j => (valV (skv S) (.inl (et.2.2.getD j 0))).isSome) = true ↔ ∃ g ∈ Cir.out (gOf L) et.1, g ∈ S.map (·.1) := by
        rw [List.any_eq_true, hout, List.length_map]
        constructor
        · rintro ⟨j, hj, h⟩
          rw [skv_in hSA.1] at h
          exact ⟨_, getD_mem (List.mem_range.mp hj), of_decide_eq_true h⟩
        · rintro ⟨g, hg, hgS⟩
          obtain ⟨j, hj, e⟩ := mem_getD hg
          exact ⟨j, List.mem_range.mpr hj, by rw [skv_in hSA.1, e]; exact decide_eq_true hgS⟩
      cases hb : (List.range (et.2.2.map V.int).length).any (fun j => (valV (skv S) (.inl (et.2.2.getD j 0))).isSome) with
      | true =>
        have hex := hany.mp hb
        have nsp : sp ≠ TP := fun z => by
          obtain ⟨ps, h, _⟩ := t5
          rw [z, h] at hS5
          cases hS5
        have hS6 : H6 sp = some (.dK (skv S)) := by
          rw [t6.2 sp nsp]
          exact hS5
        refine iT rfl ⟨_, rfl, _, rfl, _, rfl, et.1, sp, D, S, L, rfl, .inl hS6, hSA, hG3.mono (e56.trans hl_le), okL, hki, hex, fun p H7 c hp e7 hpc hBest => ?_⟩
        have t7 := tabG_ex t6.1 e7
        exact q H7 ((hl_ex E3).trans (e56.trans (hl_ex e7))) t7 (back (e56.trans (hl_ex e7)) t7) (.ref p) (some c) ⟨p, rfl, back e56 t6.1 p hp, hpc⟩ ⟨et.1, hki, hless, hBest⟩
      | false =>
        refine iF rfl ⟨_, _, rfl, e56, t6.1, fun u hu => ?_⟩
        rw [htk] at hu
        rcases List.mem_append.mp hu with m | m
        · exact hno u m
        · rw [List.mem_singleton.mp m]
          intro hcw
          obtain ⟨g, hg, n, hn⟩ := Cir.cw_rn.mp hcw
          rw [hany.mpr ⟨g, hg, (Cir.sall_far hSA).mpr ⟨n, hn⟩⟩] at hb
          cases hb
    · rintro σ H4 ⟨o3, o4, rfl, e4, t4, hno⟩
      rw [List.length_map, List.take_length] at hno
      refine (s_ret (v := .non) ev_c fun H5 e5 => ?_ : tRet (tC .non) { nx := fun _ H' => Q .non H', rt := Q } [some (.ref wa), some (.ref D), some (.ref cm), o3, o4, none] H4)
      exact q H5 ((hl_ex E3).trans (e4.trans (hl_ex e5))) (tabG_ex t4 e5) (back (e4.trans (hl_ex e5)) (tabG_ex t4 e5)) .non none rfl fun u hu => hno u ((kG u).mp hu)
end
end SB

set_option Elab.async false
set_option linter.all false
set_option maxRecDepth 100000
namespace SB
open PySem L2 Evl
/-! ### the law's ways, as lists -/
def lw (w : List Int) : Int := w.getD (w.length - 1) 0
theorem lw_lst (t : Int) (r : List Int) : lw (t :: r) = Cir.lst t r := by
  unfold lw
  rw [List.length_cons, Nat.add_sub_cancel, List.getD_eq_getElem?_getD, Cir.lst_get]
  rfl
def okO (G : Cir.Graph) (t : Int) (w : List Int) (o : Int) : Bool := decide (t < o) && (decide (o ∈ Cir.keys G) && !decide (o ∈ w))
def extW (G : Cir.Graph) (t : Int) (w : List Int) : List (List Int) := ((Cir.out G (lw w)).filter (okO G t w)).map fun o => w ++ [o]
theorem okO_iff {G : Cir.Graph} {t o : Int} {w : List Int} : okO G t w o = true ↔ t < o ∧ o ∈ Cir.keys G ∧ o ∉ w := by
  unfold okO
  rw [Bool.and_eq_true, Bool.and_eq_true, decide_eq_true_eq, decide_eq_true_eq, Bool.not_eq_true', decide_eq_false_iff_not]
theorem ways_ext {G : Cir.Graph} {t : Int} {n : Nat} {ws : List (List Int)} (h : Cir.WaysOk G t n ws) : Cir.WaysOk G t (n + 1) (ws.flatMap (extW G t)) := Cir.ways_succ h fun w' => by
  rw [List.mem_flatMap]
  constructor
  · rintro ⟨w, hw, he⟩
    obtain ⟨r, rfl, _, _⟩ := (h w).mp hw
    unfold extW at he
    obtain ⟨o, ho, rfl⟩ := List.mem_map.mp he
    obtain ⟨h1, h2⟩ := List.mem_filter.mp ho
    rw [lw_lst] at h1
    obtain ⟨a, b, c⟩ := okO_iff.mp h2
    exact ⟨_, r, o, hw, rfl, h1, a, b, c, rfl⟩
  · rintro ⟨w, r, o, hw, rfl, h1, a, b, c, rfl⟩
    refine ⟨_, hw, ?_⟩
    unfold extW
    exact List.mem_map.mpr ⟨o, List.mem_filter.mpr ⟨by rw [lw_lst]; exact h1, okO_iff.mpr ⟨a, b, c⟩⟩, rfl⟩
theorem ext_len {G : Cir.Graph} {t : Int} {n : Nat} {ws : List (List Int)} (ht : t ∈ Cir.keys G) (h8 : (Cir.keys G).length ≤ 8) (h1 : ∀ x, (Cir.out G x).Nodup) (h : Cir.WaysOk G t n ws) {w : List Int} (hw : w ∈ ws) : (extW G t w).length ≤ 7 - n := by
  obtain ⟨r, rfl, hl, hW⟩ := (h w).mp hw
  have z := Cir.nodup_le (l := (Cir.out G (lw (t :: r))).filter (okO G t (t :: r)) ++ (t :: r)) (k := Cir.keys G) (List.nodup_append.mpr ⟨List.Pairwise.filter _ (h1 _), hW.2.2, fun a ha b hb e => by
      obtain ⟨_, h2⟩ := List.mem_filter.mp ha
      exact (okO_iff.mp h2).2.2 (by rw [e]; exact hb)⟩) fun x hx => by
    rcases List.mem_append.mp hx with m | m
    · exact (okO_iff.mp (List.mem_filter.mp m).2).2.1
    · rcases List.mem_cons.mp m with e | m
      · rw [e]; exact ht
      · exact (hW.2.1 x m).2
  unfold extW
  rw [List.length_map]
  rw [List.length_append, List.length_cons] at z
  omega
theorem flat_len {α β : Type} {f : α → List β} {c : Nat} : ∀ {l : List α}, (∀ x ∈ l, (f x).length ≤ c) → (l.flatMap f).length ≤ l.length * c
  | [], _ => Nat.zero_le _
  | x :: l, h => by
    have h1 := h x List.mem_cons_self
    have h2 := flat_len (l := l) fun y hy => h y (List.mem_cons_of_mem _ hy)
    rw [List.flatMap_cons, List.length_append, List.length_cons, Nat.succ_mul]
    omega
def cnt : Nat → Nat
  | 0 => 1
  | n + 1 => cnt n * (7 - n)
theorem cnt_zero : ∀ n, cnt (n + 8) = 0
  | 0 => by decide
  | n + 1 => by
    show cnt (n + 8) * _ = 0
    rw [cnt_zero n, Nat.zero_mul]
theorem cnt_le (n : Nat) : cnt n ≤ 5040 := by
  match n with
  | 0 => decide
  | 1 => decide
  | 2 => decide
  | 3 => decide
  | 4 => decide
  | 5 => decide
  | 6 => decide
  | 7 => decide
  | n + 8 => rw [cnt_zero]; exact Nat.zero_le _
theorem out_nodup {L : List Ent} (nd : (L.map (·.1)).Nodup) (h : ∀ e ∈ L, e.2.2.Nodup) (x : Int) : (Cir.out (gOf L) x).Nodup := by
  by_cases hk : x ∈ L.map (·.1)
  · obtain ⟨e, he, rfl⟩ := List.mem_map.mp hk
    rw [out_of nd he]
    exact h e he
  · rw [Cir.out_none (by rw [keys_gOf]; exact hk)]
    exact List.nodup_nil
theorem inV_int (x : Int) (ys : List Int) : inV (.int x) (ys.map V.int) = decide (x ∈ ys) := by
  induction ys with
  | nil => rfl
  | cons y r ih =>
    have e1 : inV (.int x) ((y :: r).map V.int) = ((y == x) || inV (.int x) (r.map V.int)) := rfl
    rw [e1, ih, Bool.eq_iff_iff, Bool.or_eq_true, decide_eq_true_eq, decide_eq_true_eq, List.mem_cons, beq_iff_eq]
    exact or_congr ⟨Eq.symm, Eq.symm⟩ Iff.rfl
theorem flat_ints (ys : List Int) : (ys.map V.int).all flatV = true := by
  rw [List.all_map, List.all_eq_true]
  exact fun _ _ => rfl
section
variable {K : PySem.W.Frag} {σ : L2.St} {H : Hp} {ta tb : TE} {xs ys : List V} {a : Addr}
theorem el_catN (h1 : Ev ta σ H (.ref a)) (hx : SqL K H a xs) (h2 : EvL tb σ H ys) (hz : xs.length + ys.length ≤ 100000) : EvL (tOp (rCatL K) ta tb) σ H (xs ++ ys) := fun H1 e Q q =>
  h1 H1 e _ fun H2 e2 => h2 H2 (e.trans e2) _ fun p H3 _ e3 hp => ⟨a, p, xs, ys, rfl, rfl, ex_l ((e.trans e2).trans e3) hx, sq_of hp, sz_of hz, fun r hr => q r _ (fresh_back (e2.trans e3) hr) ((e2.trans e3).trans (Evl.Ex.new hr)) upd_same⟩
end
section
variable {P : Program} {w : World} {K : PySem.W.Frag} {mg : Str → Option Value} {base : Heap}
def rowsV (rows : List Row) : List V := rows.map fun b => V.ref b.1
def spWays (K : PySem.W.Frag) : Sp := fun vs H Q _ => ∃ (d : Addr) (L : List Ent) (t : Int) (k : Nat), vs = [.ref d, .int t, .int ((k : Int) + 1)] ∧ GAt K H d L ∧ LOk L ∧ (∀ e ∈ L, e.2.2.Nodup) ∧ L.length ≤ 8 ∧ t ∈ Cir.keys (gOf L) ∧ k ≤ 10 ∧
  ∀ p H' (rows : List Row), H p = none → Evl.Ex H H' → H' p = some (.lst (rowsV rows)) → (∀ b ∈ rows, H' b.1 = some (.lst (b.2.map V.int)) ∧ H b.1 = none) → Cir.WaysOk (gOf L) t k (rows.map (·.2)) → rows.length ≤ 5040 → Q (.ref p) H'
abbrev s__law_ways : Stmt := topS 11
theorem sc__law_ways : FnScope ["edges", "first", "length", "ways", "turn", "longer", "way", "other"] ["edges", "first", "length"] (defScope s__law_ways) := ⟨rfl, rfl, rfl, by decide +kernel, rfl, by decide +kernel, by decide +kernel⟩
theorem ok__law_ways {f : Addr} {fd : FuncData} (F : Fun K "_law_ways" "_law_ways" s__law_ways f fd) (T : Txt K mg) : FnOk P w K mg base CX0 1 f fd ["edges", "first", "length"] (spWays K) := by
  refine F.ok sc__law_ways (fun vs H Q E h => ?_) (fun cdv A outer s H vs Q E hr h => ?_)
  · obtain ⟨d, L, t, k, rfl, _⟩ := h
    rfl
  obtain ⟨d, L, t, k, rfl, hG, ok, h1, h8, ht, hk, q⟩ := h
  have nd := sc__law_ways.nd
  refine ⟨_, (pss_cons (ps_set (i := 3) nd rfl (by first | exact .inl rfl | exact .inr rfl) (pe_lst (pa_cons (pe_lst (pa_cons (pv 1) pa_nil)) pa_nil)))
      (pss_cons (ps_for PassesOwn.never rfl (pi_range1 rfl T.range_ (pa_cons (pe_op op_sub (pv 2) pe_int) pa_nil)) (pg_name (i := 4) nd rfl (by first | exact .inl rfl | exact .inr rfl))
      (pss_cons (ps_set (i := 5) nd rfl (by first | exact .inl rfl | exact .inr rfl) (pe_lst pa_nil))
      (pss_cons (ps_for PassesOwn.never rfl (pi_list (pv 3)) (pg_name (i := 6) nd rfl (by first | exact .inl rfl | exact .inr rfl))
      (pss_one (ps_for PassesOwn.never rfl (pi_list (pe_dget (hu_of hr) (pv 0) (pe_ix ix_list (pv 6) (pe_op op_sub (pe_callB c_len (by rfl) T.len_ (by decide +kernel) (pa_cons (pv 6) pa_nil)) pe_int) (fun _ _ => rfl)) (fun _ _ => rfl))) (pg_name (i := 7) nd rfl (by first | exact .inl rfl | exact .inr rfl))
      (pss_one (ps_if (PW.pt (pw_and (pt_cmpR op_gt (pv 7) (pv 1) (nomark _)) (pw_and (pt_cmp (pc_din (hu_of hr) (pv 7) (pv 0))) (pw_and1 (pt_cmpR op_notIn_seq (pv 7) (pv 6) (by with_unfolding_all rfl)))))) (pss_one (ps_expr (pe_bm PySem.F.plainAttrs_list PySem.F.slot_list_append PySem.F.type_list_append mt_append (pv 5) (pa_cons (pe_op op_catL (pv 6) (pe_lst (pa_cons (pv 7) pa_nil))) pa_nil)))) pss_nil)))))
      (pss_one (ps_set (i := 3) nd rfl (by first | exact .inl rfl | exact .inr rfl) (pv 5))))))
      (pss_one (ps_ret (pv 3))))), ?_⟩
  have h8' : (Cir.keys (gOf L)).length ≤ 8 := by rw [keys_gOf, List.length_map]; exact h8
  have hon := out_nodup ok.nd h1
  refine ⟨_, rfl, by show 1 ≤ sizeLine; decide, fun p1 hp1 => ⟨by show 1 ≤ sizeLine; decide, fun p2 hp2 => ?_⟩⟩
  have n1 := Ex.new (o := .lst [V.int t]) hp1
  have n2 := Ex.new (o := .lst [V.ref p1]) hp2
  refine q_forR1 (ea_cons (ev_op (ev_var rfl) ev_c rv_I0) ea_nil) ⟨by omega, by omega⟩ (fun i σ H' => ∃ (rows : List Row) (wp : Addr) (o4 o5 o6 o7 : Option V), σ = [some (.ref d), some (.int t), some (.int ((k : Int) + 1)), some (.ref wp), o4, o5, o6, o7] ∧ Evl.Ex H H' ∧ H wp = none ∧ H' wp = some (.lst (rowsV rows)) ∧ (∀ b ∈ rows, H' b.1 = some (.lst (b.2.map V.int)) ∧ H b.1 = none) ∧
      Cir.WaysOk (gOf L) t i (rows.map (·.2)) ∧ rows.length ≤ cnt i)
    (fun H1 e1 => ⟨[(p1, [t])], p2, none, none, none, none, rfl, (n1.trans n2).trans e1, fresh_back n1 hp2, e1 _ _ upd_same, fun b hb => ?_, Cir.ways_zero, Nat.le_refl _⟩) ?_ ?_
  · rw [List.mem_singleton.mp hb]
    exact ⟨e1 _ _ (n2 _ _ upd_same), hp1⟩
  · rintro i σ H1 hi ⟨rows, wp, o4, o5, o6, o7, rfl, s1, hwp, e1, hrows, hW, hlen⟩
    have hrl : rows.length ≤ 5040 := Nat.le_trans hlen (cnt_le i)
    refine q_asgL (el_lst ea_nil (by decide)) fun lp H2 hlp s2 e2 => ?_
    have hlpH : H lp = none := fresh_back s1 hlp
    have nwl : wp ≠ lp := fun z => by rw [z, hlp] at e1; cases e1
    have ext7 : ∀ b ∈ rows, (extW (gOf L) t b.2).length ≤ 7 := fun b hb => Nat.le_trans (ext_len ht h8' hon hW (List.mem_map.mpr ⟨b, hb, rfl⟩)) (Nat.sub_le _ _)
    refine q_forLn (ev_var rfl) (sq_of (s2 _ _ e1)) (fun a σ H' => ∃ (Lr : List Row) (o6 o7 : Option V), σ = [some (.ref d), some (.int t), some (.int ((k : Int) + 1)), some (.ref wp), some (.int (i : Int)), some (.ref lp), o6, o7] ∧ Evl.Ex H H' ∧ H' wp = some (.lst (rowsV rows)) ∧ (∀ b ∈ rows, H' b.1 = some (.lst (b.2.map V.int)) ∧ b.1 ≠ lp) ∧
        H' lp = some (.lst (rowsV Lr)) ∧ (∀ b ∈ Lr, (H' b.1 = some (.lst (b.2.map V.int)) ∧ b.1 ≠ lp) ∧ H b.1 = none) ∧ Lr.map (·.2) = (rows.take a).flatMap fun b => extW (gOf L) t b.2)
      (fun H3 e3 => ⟨[], o6, o7, rfl, (s1.trans s2).trans e3, e3 _ _ (s2 _ _ e1), fun b hb => ⟨e3 _ _ (s2 _ _ (hrows b hb).1), fun z => by have y := (hrows b hb).1; rw [z, hlp] at y; cases y⟩, e3 _ _ e2, (fun b hb => nomatch hb), rfl⟩)
      (fun a σ H' _ ⟨_, _, _, _, _, z, _⟩ => sq_of z) ?_ ?_
    · rintro a x σ H3 ha ⟨Lr, o6, o7, rfl, s3, w3, r3, l3, hLr, hmap⟩
      have ha2 : a < rows.length := by
        have z := (List.getElem?_eq_some_iff.mp ha).1
        unfold rowsV at z
        rw [List.length_map] at z
        exact z
      unfold rowsV at ha
      rw [List.getElem?_map, List.getElem?_eq_getElem ha2] at ha
      obtain rfl := Option.some.inj ha
      have hbm : rows[a] ∈ rows := List.getElem_mem ha2
      have htk : rows.take (a + 1) = rows.take a ++ [rows[a]] := List.take_succ_eq_append_getElem ha2
      generalize hbb : rows[a] = b at hbm htk ⊢
      obtain ⟨r, hbr, hrlen, hWay⟩ := (hW b.2).mp (List.mem_map.mpr ⟨b, hbm, rfl⟩)
      have hlast : lw b.2 ∈ Cir.keys (gOf L) := by
        rw [hbr, lw_lst]
        rcases List.eq_nil_or_concat r with e | ⟨r', o, e⟩
        · rw [e]; exact ht
        · rw [e, List.concat_eq_append, Cir.lst_snoc]
          exact (hWay.2.1 o (by rw [e, List.concat_eq_append]; simp)).2
      rw [keys_gOf] at hlast
      obtain ⟨el, hel, hel1⟩ := List.mem_map.mp hlast
      have hout : Cir.out (gOf L) (lw b.2) = el.2.2 := by rw [← hel1]; exact out_of ok.nd hel
      have hbl : 0 < b.2.length := by rw [hbr]; exact Nat.succ_pos _
      have hix : ∀ H', H' b.1 = some (.lst (b.2.map V.int)) → ∀ σ : L2.St, σ[6]? = some (some (.ref b.1)) → Ev (tOp (rIxL K) (tVar 6) (tOp (rI0 fun i j => .int (i - j)) (tCB (rLenS K) (tCons (tVar 6) tNil)) (tC (.int 1)))) σ H' (.int (lw b.2)) := fun H' hb σ hs => by
        have e : ((b.2.map V.int).length : Int) - 1 = ((b.2.length - 1 : Nat) : Int) := by rw [List.length_map]; omega
        refine ev_ixL (ev_var hs) (ev_is (ev_op (ev_len (ev_var hs) (sq_of hb)) ev_c rv_I0) (congrArg V.int e)) (sq_of hb) (atI_nat ?_)
        rw [List.getElem?_map, List.getElem?_eq_getElem (by omega)]
        unfold lw
        rw [List.getD_eq_getElem?_getD, List.getElem?_eq_getElem (by omega)]
        rfl
      have hfl : ((rows.take a).flatMap fun b => extW (gOf L) t b.2).length ≤ 5040 * 7 := by
        have z := flat_len (f := fun b : Row => extW (gOf L) t b.2) (l := rows.take a) (c := 7) fun x hx => ext7 x (List.mem_of_mem_take hx)
        rw [List.length_take] at z
        have z2 : min a rows.length * 7 ≤ 5040 * 7 := Nat.mul_le_mul_right 7 (by omega)
        omega
      refine s_forLn (ev_dgetR (k := Sum.inl el.1) (ev_var rfl) (by rw [hel1]; exact hix H3 (r3 b hbm).1 _ rfl) (hG.mono s3).dct (dkv_some ok.nd hel)) ((hG.mono s3).at_ el hel) (fun j σ H' => ∃ (Lr : List Row) (o7 : Option V), σ = [some (.ref d), some (.int t), some (.int ((k : Int) + 1)), some (.ref wp), some (.int (i : Int)), some (.ref lp), some (.ref b.1), o7] ∧ Evl.Ex H H' ∧ H' wp = some (.lst (rowsV rows)) ∧ (∀ b ∈ rows, H' b.1 = some (.lst (b.2.map V.int)) ∧ b.1 ≠ lp) ∧
          H' lp = some (.lst (rowsV Lr)) ∧ (∀ b ∈ Lr, (H' b.1 = some (.lst (b.2.map V.int)) ∧ b.1 ≠ lp) ∧ H b.1 = none) ∧ Lr.map (·.2) = ((rows.take a).flatMap fun b => extW (gOf L) t b.2) ++ ((el.2.2.take j).filter (okO (gOf L) t b.2)).map fun o => b.2 ++ [o])
        (fun H4 e4 => ⟨Lr, o7, rfl, s3.trans e4, e4 _ _ w3, fun b hb => ⟨e4 _ _ (r3 b hb).1, (r3 b hb).2⟩, e4 _ _ l3, fun b hb => ⟨⟨e4 _ _ (hLr b hb).1.1, (hLr b hb).1.2⟩, (hLr b hb).2⟩, by rw [hmap]; simp⟩)
        (fun j σ H' _ ⟨_, _, _, e, _⟩ => (hG.mono e).at_ el hel) ?_ ?_
      · rintro j y σ H4 hj ⟨Lr, o7, rfl, s4, w4, r4, l4, hLr, hmap⟩
        obtain ⟨hj2, rfl⟩ := get_ints hj
        have htj : el.2.2.take (j + 1) = el.2.2.take j ++ [el.2.2.getD j 0] := by
          rw [List.take_succ_eq_append_getElem hj2, List.getD_eq_getElem?_getD, List.getElem?_eq_getElem hj2]
          rfl
        generalize hoo : el.2.2.getD j 0 = o at htj ⊢
        have hll : Lr.length < 90000 := by
          have z : Lr.length = (Lr.map (·.2)).length := by rw [List.length_map]
          rw [z, hmap, List.length_append, List.length_map]
          have z2 := List.length_filter_le (okO (gOf L) t b.2) (el.2.2.take j)
          rw [List.length_take] at z2
          have := ok.few el hel
          omega
        have hbrow := r4 b hbm
        have hin : (valV (dkv L) (.inl o)).isSome = decide (o ∈ Cir.keys (gOf L)) := by
          rw [keys_gOf]
          by_cases hk : o ∈ L.map (·.1)
          · obtain ⟨e, he, rfl⟩ := List.mem_map.mp hk
            rw [dkv_some ok.nd he, decide_eq_true hk]
            rfl
          · rw [dkv_none hk, decide_eq_false hk]
            rfl
        have hnotin : inV (.int o) (b.2.map V.int) = decide (o ∈ b.2) := inV_int o b.2
        refine s_when (b := okO (gOf L) t b.2 o) (et_is (et_and (et_test (ev_op (ev_var rfl) (ev_var rfl) rv_I0)) fun _ => et_and (et_B (ev_dinR (k := Sum.inl o) (ev_var rfl) (ev_var rfl) (hG.mono s4).dct)) fun _ => et_test (ev_op (ev_var rfl) (ev_var rfl) (rv_niL (sq_of hbrow.1) rfl (flat_ints b.2)))) (by rw [hin, hnotin]; rfl)) (fun hb H5 s5 => ?_) (fun hb H5 s5 => ?_)
        · refine s_appL (s5 _ _ l4) (ev_var rfl) (el_catN (ev_var rfl) (sq_of (s5 _ _ hbrow.1)) (el_lst (ea_cons (ev_var rfl) ea_nil) one5) (by rw [List.length_map, hbr, List.length_cons, hrlen]; show i + 1 + 1 ≤ 100000; omega)) (by unfold rowsV; rw [List.length_map]; omega) fun p H6 hp s6 e6 => ?_
          have nlp : p ≠ lp := fun z => by rw [z, s5 _ _ l4] at hp; cases hp
          have up : ∀ b' : Row, (H4 b'.1 = some (.lst (b'.2.map V.int)) ∧ b'.1 ≠ lp) → upd H6 lp (.lst (rowsV Lr ++ [V.ref p])) b'.1 = some (.lst (b'.2.map V.int)) ∧ b'.1 ≠ lp := fun b' ⟨x, y⟩ => ⟨by rw [upd_ne y]; exact s6 _ _ (s5 _ _ x), y⟩
          refine ⟨Lr ++ [(p, b.2 ++ [o])], _, rfl, Ex.mut ((s4.trans s5).trans s6) hlpH, by rw [upd_ne nwl]; exact s6 _ _ (s5 _ _ w4), fun b' hb' => up b' (r4 b' hb'), ?_, fun b' hb' => ?_, ?_⟩
          · unfold rowsV
            rw [List.map_append]
            exact upd_same
          · rcases List.mem_append.mp hb' with m | m
            · exact ⟨up b' (hLr b' m).1, (hLr b' m).2⟩
            · rw [List.mem_singleton.mp m]
              refine ⟨⟨?_, nlp⟩, fresh_back (s4.trans s5) hp⟩
              rw [upd_ne nlp, List.map_append]
              exact e6
          · rw [List.map_append, hmap, htj, List.filter_append, List.map_append, ← List.append_assoc]
            rw [show [o].filter (okO (gOf L) t b.2) = [o] from List.filter_cons_of_pos hb]
            rfl
        · refine ⟨Lr, _, rfl, s4.trans s5, s5 _ _ w4, fun b' hb' => ⟨s5 _ _ (r4 b' hb').1, (r4 b' hb').2⟩, s5 _ _ l4, fun b' hb' => ⟨⟨s5 _ _ (hLr b' hb').1.1, (hLr b' hb').1.2⟩, (hLr b' hb').2⟩, ?_⟩
          rw [hmap, htj, List.filter_append, show [o].filter (okO (gOf L) t b.2) = [] from by rw [List.filter_cons_of_neg (by rw [hb]; decide)]; rfl, List.append_nil]
      · rintro σ H4 ⟨Lr, o7, rfl, s4, w4, r4, l4, hLr, hmap⟩
        refine ⟨Lr, _, _, rfl, s4, w4, r4, l4, hLr, ?_⟩
        rw [List.length_map, List.take_length] at hmap
        rw [hmap, htk, List.flatMap_append, List.flatMap_cons, List.flatMap_nil, List.append_nil]
        unfold extW
        rw [hout]
    · rintro σ H3 ⟨Lr, o6, o7, rfl, s3, w3, r3, l3, hLr, hmap⟩
      have hrw : (rowsV rows).length = rows.length := by unfold rowsV; rw [List.length_map]
      rw [hrw, List.take_length] at hmap
      have hmap2 : Lr.map (·.2) = (rows.map (·.2)).flatMap (extW (gOf L) t) := by rw [hmap, List.flatMap_map]
      refine s_asg (ev_var rfl) fun H4 s4 => ⟨Lr, lp, _, _, _, _, rfl, s3.trans s4, hlpH, s4 _ _ l3, fun b hb => ⟨s4 _ _ (hLr b hb).1.1, (hLr b hb).2⟩, by rw [hmap2]; exact ways_ext hW, ?_⟩
      have z : Lr.length = (Lr.map (·.2)).length := by rw [List.length_map]
      rw [z, hmap]
      refine Nat.le_trans (flat_len (f := fun b : Row => extW (gOf L) t b.2) (c := 7 - i) fun b hb => ext_len ht h8' hon hW (List.mem_map.mpr ⟨b, hb, rfl⟩)) ?_
      exact Nat.mul_le_mul_right _ hlen
  · rintro σ H1 ⟨rows, wp, o4, o5, o6, o7, rfl, s1, hwp, e1, hrows, hW, hlen⟩
    have hk2 : ((k : Int) + 1 - 1).toNat = k := by omega
    rw [hk2] at hW hlen
    exact s_ret (ev_var rfl) fun H2 s2 => q wp H2 rows hwp (s1.trans s2) (s2 _ _ e1) (fun b hb => ⟨s2 _ _ (hrows b hb).1, (hrows b hb).2⟩) hW (Nat.le_trans hlen (cnt_le k))
end
end SB

set_option Elab.async false
set_option linter.all false
set_option maxRecDepth 100000
namespace SB
open PySem L2 Evl
theorem ways_last {G : Cir.Graph} {t : Int} {n : Nat} {ws : List (List Int)} (ht : t ∈ Cir.keys G) (h : Cir.WaysOk G t n ws) {w : List Int} (hw : w ∈ ws) : lw w ∈ Cir.keys G ∧ w.length = n + 1 := by
  obtain ⟨r, rfl, hl, hW⟩ := (h w).mp hw
  rw [lw_lst]
  refine ⟨?_, by rw [List.length_cons, hl]⟩
  rcases List.eq_nil_or_concat r with e | ⟨r', o, e⟩
  · rw [e]; exact ht
  · rw [e, List.concat_eq_append, Cir.lst_snoc]
    exact (hW.2.1 o (by rw [e, List.concat_eq_append]; simp)).2
/-- the least of the rows stands first -/
theorem rows_first {bs : List Row} (h : bs ≠ []) : ∃ b r, bs.mergeSort rowLe = b :: r ∧ b ∈ bs ∧ ∀ c ∈ bs, b.2 ≤ c.2 := by
  have hs := List.pairwise_mergeSort (le := rowLe) (fun a b c h1 h2 => decide_eq_true (List.le_trans (of_decide_eq_true h1) (of_decide_eq_true h2))) (fun a b => by
    rcases List.le_total a.2 b.2 with h | h
    · rw [Bool.or_eq_true]
      exact .inl (decide_eq_true h)
    · rw [Bool.or_eq_true]
      exact .inr (decide_eq_true h)) bs
  have hp := List.mergeSort_perm bs rowLe
  cases e : bs.mergeSort rowLe with
  | nil =>
    rw [e] at hp
    exact absurd hp.symm.eq_nil h
  | cons b r =>
    rw [e] at hs hp
    refine ⟨b, r, rfl, hp.mem_iff.mp List.mem_cons_self, fun c hc => ?_⟩
    rcases List.mem_cons.mp (hp.mem_iff.mpr hc) with z | z
    · rw [z]
      exact List.le_refl _
    · exact of_decide_eq_true ((List.pairwise_cons.mp hs).1 c z)
theorem q_asgLc {K : PySem.W.Frag} {tl te : TE} {tt : TT} {g : TG} {vs : List Nat} {i : Nat} {tz : TS} {D : Ends} {σ : L2.St} {H : Hp} (h : tl σ H fun v H1 => tSeq (tAsg (tLc (iList K (tC v)) g tt te vs) (gName i)) tz D σ H1) : tSeq (tAsg (tLc (iList K tl) g tt te vs) (gName i)) tz D σ H := h
section
variable {P : Program} {w : World} {K : PySem.W.Frag} {mg : Str → Option Value} {base : Heap}
def spLC (K : PySem.W.Frag) : Sp := fun vs H Q _ => ∃ (v : V) (W : List (Int × Rsn)), vs = [v] ∧ Dp K H v (datW W) ∧ WOk W ∧
  ∀ H', Evl.Ex H H' → ∀ v' res, isRes res v' H H' → Cir.IsC (gW W) res → Q v' H'
abbrev s__law_circle : Stmt := topS 12
theorem sc__law_circle : FnScope ["waits", "edges", "task", "reason", "first", "length", "found", "way"] ["waits"] (defScope s__law_circle) := ⟨rfl, rfl, rfl, by decide +kernel, rfl, by decide +kernel, by decide +kernel⟩
theorem ok__law_circle {f : Addr} {fd : FuncData} (F : Fun K "_law_circle" "_law_circle" s__law_circle f fd) (T : Txt K mg) (F__law_next : Fn P w K mg base 1 "_law_next" ["reason"] (spNext K)) (F__law_ways : Fn P w K mg base 1 "_law_ways" ["edges", "first", "length"] (spWays K)) :
    FnOk P w K mg base CX0 2 f fd ["waits"] (spLC K) := by
  refine F.ok sc__law_circle (fun vs H Q E h => ?_) (fun cdv A outer s H vs Q E hr h => ?_)
  · obtain ⟨v, W, rfl, _⟩ := h
    rfl
  obtain ⟨v, W, rfl, hD, ok, q⟩ := h
  have nd := sc__law_circle.nd
  have hr__law_next := hr
  have hr__law_ways := hr
  refine ⟨_, (pss_cons (ps_set (i := 1) nd rfl (by first | exact .inl rfl | exact .inr rfl) pe_dnewK)
      (pss_cons (ps_for PassesOwn.never rfl (pi_list (pv 0)) (pg_tup rfl (pgs_cons (pg_name (i := 2) nd rfl (by first | exact .inl rfl | exact .inr rfl)) (pgs_cons (pg_name (i := 3) nd rfl (by first | exact .inl rfl | exact .inr rfl)) pgs_nil)))
      (pss_one (ps_dput (hu_of hr) (pv 1) (pv 2) (pe_fn F__law_next hr__law_next (by rfl) (pa_cons (pv 3) pa_nil)) rfl)))
      (pss_cons (ps_for PassesOwn.never rfl (pi_list (pe_callB cr_sortedI (by rfl) T.sorted_ (by decide +kernel) (pa_cons (pe_callTy (call_list_dK rfl) (by rfl) T.list_ (by decide +kernel) (pa_cons (pv 1) pa_nil)) pa_nil))) (pg_name (i := 4) nd rfl (by first | exact .inl rfl | exact .inr rfl))
      (pss_one (ps_for PassesOwn.never rfl (pi_range2 rfl T.range_ (pa_cons pe_int (pa_cons (pe_op op_add (pe_callB c_len (by rfl) T.len_ (by decide +kernel) (pa_cons (pv 0) pa_nil)) pe_int) pa_nil))) (pg_name (i := 5) nd rfl (by first | exact .inl rfl | exact .inr rfl))
      (pss_cons (ps_setLc (i := 6) (own := [("way", 7)]) (by rfl) nd rfl rfl (sw_true rfl rfl rfl (by decide +kernel)) (pi_list (pe_fn F__law_ways hr__law_ways (by rfl) (pa_cons (pv 1) (pa_cons (pv 4) (pa_cons (pv 5) pa_nil))))) (blkOk_by (own := [("way", 7)]) (N := ["waits", "edges", "task", "reason", "first", "length", "found", "way"]) (sc := defScope s__law_circle) (by decide +kernel)) (fun _ _ _ _ _ => (pg_name (i := 7) nd rfl (by first | exact .inl rfl | exact .inr rfl))) (fun _ _ _ _ _ => (pts_one (pt_cmpR (inS_K K rfl) (pv 4) (pe_dget (hu_of hr) (pv 1) (pe_ix (ixL_K K rfl) (pv 7) (pe_op op_sub (pe_callB (len_K K rfl) (by rfl) T.len_ (by decide +kernel) (pa_cons (pv 7) pa_nil)) pe_int) (fun _ _ => rfl)) (fun _ _ => rfl)) (by with_unfolding_all rfl)))) (fun _ _ _ _ _ => (pv 7)))
      (pss_one (ps_if (pt_cmpR op_gt (pe_callB c_len (by rfl) T.len_ (by decide +kernel) (pa_cons (pv 6) pa_nil)) pe_int (nomark _)) (pss_one (ps_ret (pe_ix ix_list (pe_callB (cr_rows hr.units) (by rfl) T.sorted_ (by decide +kernel) (pa_cons (pv 6) pa_nil)) pe_int (fun _ _ => rfl)))) pss_nil))))))
      (pss_one (ps_ret pe_non))))), ?_⟩
  obtain ⟨wa, xs, rfl, hxs, hall⟩ := dp_list hD
  obtain ⟨hxl, hxd⟩ := dpa_get hall
  rw [List.length_map] at hxl
  refine q_asgD fun ep H1 hep s1 e1 => ?_
  refine q_forL (ev_var rfl) (ex_l s1 hxs) (fun i σ H' => ∃ (L : List Ent) (o2 o3 : Option V), σ = [some (.ref wa), some (.ref ep), o2, o3, none, none, none, none] ∧ H' ep = some (.dK (dkv L)) ∧ gOf L = gW (W.take i) ∧ (∀ e ∈ L, H' e.2.1 = some (.lst (e.2.2.map V.int))) ∧ Evl.Ex H H')
    (fun H2 e2 => ⟨[], none, none, rfl, e2 _ _ e1, rfl, (fun e he => nomatch he), s1.trans e2⟩) (fun i σ H' _ ⟨_, _, _, _, _, _, _, e⟩ => ex_l e hxs) ?_ ?_
  · rintro i x σ H2 hx ⟨L, o2, o3, rfl, hd, hL, hat, ex⟩
    have hi : i < W.length := by
      have z := (List.getElem?_eq_some_iff.mp hx).1
      omega
    obtain ⟨pa, rv, rfl, hpa, hrv⟩ := dp_pair (hxd i x _ hx (by rw [List.getElem?_map, List.getElem?_eq_getElem hi]; rfl))
    refine ⟨pa, _, rfl, ex_t ex hpa, rfl, _, _, rfl, _, _, rfl, rfl, ?_⟩
    refine ⟨_, rfl, rv, W[i].2, rfl, Dp.mono ex hrv, fun p H3 hp ex3 hv => ⟨_, rfl, _, rfl, ep, _, rfl, DPut.k (k := Sum.inl W[i].1) (ex3 _ _ hd) ?_, L ++ [(W[i].1, p, nexts W[i].2)], _, _, rfl, ?_⟩⟩
    · have z : (gOf L).length = (gW (W.take i)).length := by rw [hL]
      unfold gOf gW at z
      rw [List.length_map, List.length_map, List.length_take] at z
      unfold dkv
      rw [List.length_map]
      have := ok.len
      exact sz_lt (by omega)
    · have hkL : L.map (·.1) = (W.take i).map (·.1) := by
        rw [← keys_gOf, hL]
        unfold Cir.keys gW
        rw [List.map_map]
        rfl
      have hni : W[i].1 ∉ L.map (·.1) := by
        rw [hkL]
        intro m
        have z := ok.nd
        rw [← List.take_append_drop i W, List.map_append, List.nodup_append] at z
        refine z.2.2 _ m _ (List.mem_map.mpr ⟨W[i], ?_, rfl⟩) rfl
        rw [List.drop_eq_getElem_cons hi]
        exact List.mem_cons_self
      have nD : ∀ b ys, H3 b = some (.lst ys) → b ≠ ep := fun b ys hb e => by
        rw [e, ex3 _ _ hd] at hb
        cases hb
      refine ⟨by rw [upd_same, dput_ent hni], ?_, fun e he => ?_, Ex.mut (ex.trans ex3) hep⟩
      · rw [List.take_succ_eq_append_getElem hi]
        unfold gOf gW at hL ⊢
        rw [List.map_append, List.map_append, hL]
        rfl
      · rcases List.mem_append.mp he with m | m
        · have z := ex3 _ _ (hat e m)
          rw [upd_ne (nD _ _ z)]
          exact z
        · rw [List.mem_singleton.mp m, upd_ne (nD _ _ hv)]
          exact hv
  · rintro σ H2 ⟨L, o2, o3, rfl, hd, hL, hat, ex⟩
    rw [hxl, List.take_length] at hL
    have hLk : L.map (·.1) = W.map (·.1) := by
      rw [← keys_gOf, hL]
      unfold Cir.keys gW
      rw [List.map_map]
      rfl
    have inW : ∀ e ∈ L, ∃ w' ∈ W, nexts w'.2 = e.2.2 := fun e he => by
      have z : (e.1, e.2.2) ∈ gW W := by
        rw [← hL]
        exact List.mem_map.mpr ⟨e, he, rfl⟩
      obtain ⟨w', hw, ew⟩ := List.mem_map.mp z
      exact ⟨w', hw, (Prod.mk.inj ew).2⟩
    have hlen : L.length = W.length := by
      have z : (L.map (·.1)).length = (W.map (·.1)).length := by rw [hLk]
      rw [List.length_map, List.length_map] at z
      exact z
    have okL : LOk L := ⟨by rw [hLk]; exact ok.nd, by have := ok.len; omega, fun e he => by
      obtain ⟨w', hw, z⟩ := inW e he
      rw [← z]
      exact ok.few w' hw⟩
    have one : ∀ e ∈ L, e.2.2.Nodup := fun e he => by
      obtain ⟨w', hw, z⟩ := inW e he
      rw [← z]
      exact ok.one w' hw
    have hG : GAt K H2 ep L := ⟨.inl hd, fun e he => sq_of (hat e he)⟩
    rw [← hL] at q
    refine ⟨_, rfl, ep, dkv L, rfl, hd, fun q1 hq1 => ⟨q1, L.map (·.1), rfl, sq_of ?_, fun ys yp hperm hsort hyp => ?_⟩⟩
    · rw [upd_same]
      unfold dkv
      rw [List.map_map, List.map_map]
      rfl
    generalize hH3 : upd (upd H2 q1 (.lst ((dkv L).map fun kv => kV kv.1))) yp (.lst (ys.map V.int)) = H3
    have e3 : Evl.Ex H2 H3 := by rw [← hH3]; exact (Ex.new hq1).trans (Ex.new hyp)
    have hy3 : H3 yp = some (.lst (ys.map V.int)) := by rw [← hH3]; exact upd_same
    clear hH3
    have hG3 := hG.mono e3
    have kG : ∀ u, u ∈ Cir.keys (gOf L) ↔ u ∈ ys := fun u => by
      rw [keys_gOf]
      exact (hperm.mem_iff).symm
    refine s_forLn (tl := tC (.ref yp)) (K := K) ev_c (sq_of hy3) (fun i σ H' => ∃ (o4 o5 o6 : Option V), σ = [some (.ref wa), some (.ref ep), o2, o3, o4, o5, o6, none] ∧ Evl.Ex H3 H' ∧ ∀ u ∈ ys.take i, ¬ Cir.CW (gOf L) u)
      (fun H4 e4 => ⟨none, none, none, rfl, e4, fun u hu => nomatch hu⟩) (fun i σ H' _ ⟨_, _, _, _, e, _⟩ => ex_l e (sq_of hy3)) ?_ ?_
    · rintro i x σ H4 hi ⟨o4, o5, o6, rfl, e4, hno⟩
      obtain ⟨hi2, rfl⟩ := get_ints hi
      have hmem : ys.getD i 0 ∈ ys := getD_mem hi2
      have hki := (kG _).mpr hmem
      have htk : ys.take (i + 1) = ys.take i ++ [ys.getD i 0] := by
        rw [List.take_succ_eq_append_getElem hi2, List.getD_eq_getElem?_getD, List.getElem?_eq_getElem hi2]
        rfl
      have hless : ∀ u ∈ Cir.keys (gOf L), u < ys.getD i 0 → ¬ Cir.CW (gOf L) u := fun u hu hlt => by
        refine hno u ?_
        have z := (kG u).mp hu
        rw [← List.take_append_drop i ys] at z
        rcases List.mem_append.mp z with m | m
        · exact m
        · exfalso
          rw [List.drop_eq_getElem_cons hi2] at m
          have hd0 : ys.getD i 0 = ys[i] := by rw [List.getD_eq_getElem?_getD, List.getElem?_eq_getElem hi2]; rfl
          have hle : ys[i] ≤ u := by
            rcases List.mem_cons.mp m with e | m
            · rw [e]
              exact Int.le_refl _
            · have ps := hsort
              rw [← List.take_append_drop i ys, List.pairwise_append, List.drop_eq_getElem_cons hi2] at ps
              exact (List.pairwise_cons.mp ps.2.1).1 u m
          omega
      generalize htt : ys.getD i 0 = t at hmem hki htk hless ⊢
      have hWl : (Cir.keys (gOf L)).length = W.length := by rw [keys_gOf, List.length_map]; exact hlen
      have okl := ok.len
      refine s_forR2 (ea_cons ev_c (ea_cons (ev_op (ev_len (ev_var rfl) (ex_l ((ex.trans e3).trans e4) hxs)) ev_c rv_I0) ea_nil)) ⟨by decide, by decide, by omega, by omega⟩ (fun j σ H' => ∃ (o5 o6 : Option V), σ = [some (.ref wa), some (.ref ep), o2, o3, some (.int t), o5, o6, none] ∧ Evl.Ex H3 H' ∧ ∀ m, m < j → Cir.FoundOk (gOf L) t m [])
        (fun H5 e5 => ⟨o5, o6, rfl, e4.trans e5, fun m hm => absurd hm (Nat.not_lt_zero m)⟩) ?_ ?_
      · rintro j σ H5 hj ⟨o5, o6, rfl, e5, hnone⟩
        rw [hxl] at hj
        have ej : (1 : Int) + (j : Int) = (j : Int) + 1 := Int.add_comm _ _
        rw [ej]
        refine q_asgLc ⟨_, rfl, _, rfl, _, rfl, ep, L, t, j, rfl, hG3.mono e5, okL, one, by omega, hki, by omega, fun wp H6 rows hwp e6 hv hrows hW hrl => ?_⟩
        have hG6 := hG3.mono (e5.trans e6)
        have hrw : (rowsV rows).length = rows.length := by unfold rowsV; rw [List.length_map]
        have rowAt : ∀ (i : Nat) (x : V), (rowsV rows)[i]? = some x → i < rows.length ∧ rows.getD i (0, []) ∈ rows ∧ x = .ref (rows.getD i (0, [])).1 := fun i x hx => by
          unfold rowsV at hx
          have z := (List.getElem?_eq_some_iff.mp hx).1
          rw [List.length_map] at z
          rw [List.getElem?_map, List.getElem?_eq_getElem z] at hx
          rw [List.getD_eq_getElem?_getD, List.getElem?_eq_getElem z]
          exact ⟨z, List.getElem_mem z, (Option.some.inj hx).symm⟩
        refine q_asgL (el_lcL (K := K) (H := H6) (σ := [some (.ref wa), some (.ref ep), o2, o3, some (.int t), some (.int ((j : Int) + 1)), o6, none]) (t := tTest (tOp (rIn K false) (tVar 4) (tDGet (tVar 1) (tOp (rIxL K) (tVar 7) (tOp (rI0 fun i j => .int (i - j)) (tCB (rLenS K) (tCons (tVar 7) tNil)) (tC (.int 1))))))) (te := tVar 7) (tl := tC (.ref wp)) (j := 7) (vs := [7])
          (fun i => decide (t ∈ Cir.out (gOf L) (lw (rows.getD i (0, [])).2))) (fun i => .ref (rows.getD i (0, [])).1) ev_c (sq_of hv) (by rw [hrw]; omega) (fun x => rfl) (fun i x H7 e7 hx => ?_) (fun i x H7 e7 hx _ => ?_)) fun fp H7 hfp e7 hfv => ?_
        · obtain ⟨hi3, hrm, rfl⟩ := rowAt i x hx
          generalize rows.getD i (0, []) = b at hrm ⊢
          obtain ⟨hlk, hbl⟩ := ways_last hki hW (List.mem_map.mpr ⟨b, hrm, rfl⟩)
          rw [keys_gOf] at hlk
          obtain ⟨el, hel, hel1⟩ := List.mem_map.mp hlk
          have hout : Cir.out (gOf L) (lw b.2) = el.2.2 := by rw [← hel1]; exact out_of okL.nd hel
          have hb7 := e7 _ _ (hrows b hrm).1
          have hix : Ev (tOp (rIxL K) (tVar 7) (tOp (rI0 fun i j => .int (i - j)) (tCB (rLenS K) (tCons (tVar 7) tNil)) (tC (.int 1)))) [some (.ref wa), some (.ref ep), o2, o3, some (.int t), some (.int ((j : Int) + 1)), o6, some (.ref b.1)] H7 (.int (lw b.2)) := by
            have e : ((b.2.map V.int).length : Int) - 1 = ((b.2.length - 1 : Nat) : Int) := by rw [List.length_map]; omega
            refine ev_ixL (ev_var rfl) (ev_is (ev_op (ev_len (ev_var rfl) (sq_of hb7)) ev_c rv_I0) (congrArg V.int e)) (sq_of hb7) (atI_nat ?_)
            rw [List.getElem?_map, List.getElem?_eq_getElem (by omega)]
            unfold lw
            rw [List.getD_eq_getElem?_getD, List.getElem?_eq_getElem (by omega)]
            rfl
          have z := et_test (ev_op (ev_var (i := 4) (σ := [some (.ref wa), some (.ref ep), o2, o3, some (.int t), some (.int ((j : Int) + 1)), o6, some (.ref b.1)]) rfl) (ev_dgetR (k := Sum.inl el.1) (ev_var (i := 1) rfl) (by rw [hel1]; exact hix) (hG6.mono e7).dct (dkv_some okL.nd hel)) (rv_isL ((hG6.mono e7).at_ el hel) rfl (flat_ints _)))
          rw [inV_int, ← hout] at z
          exact z
        · obtain ⟨_, _, rfl⟩ := rowAt i x hx
          exact ev_var rfl
        generalize hfd : ((List.range rows.length).filter fun i => decide (t ∈ Cir.out (gOf L) (lw (rows.getD i (0, [])).2))).map (fun i => rows.getD i (0, [])) = found
        have hgv : given (rowsV rows).length (fun i => decide (t ∈ Cir.out (gOf L) (lw (rows.getD i (0, [])).2))) (fun i => V.ref (rows.getD i (0, [])).1) = found.map fun b => V.ref b.1 := by
          rw [← hfd, hrw, List.map_map]
          rfl
        rw [hgv] at hfv
        have hfm : ∀ b, b ∈ found ↔ b ∈ rows ∧ t ∈ Cir.out (gOf L) (lw b.2) := fun b => by
          rw [← hfd, List.mem_map]
          constructor
          · rintro ⟨i, hi, rfl⟩
            obtain ⟨h1, h2⟩ := List.mem_filter.mp hi
            refine ⟨?_, of_decide_eq_true h2⟩
            have z := List.mem_range.mp h1
            rw [List.getD_eq_getElem?_getD, List.getElem?_eq_getElem z]
            exact List.getElem_mem z
          · rintro ⟨hb, ht⟩
            obtain ⟨i, hi, e⟩ := List.getElem_of_mem hb
            have e2 : rows.getD i (0, []) = b := by rw [List.getD_eq_getElem?_getD, List.getElem?_eq_getElem hi]; exact e
            exact ⟨i, List.mem_filter.mpr ⟨List.mem_range.mpr hi, decide_eq_true (by rw [e2]; exact ht)⟩, e2⟩
        have hF : Cir.FoundOk (gOf L) t j (found.map (·.2)) := Cir.found_of hW fun w' => by
          rw [List.mem_map, List.mem_map]
          constructor
          · rintro ⟨b, hb, rfl⟩
            obtain ⟨h1, h2⟩ := (hfm b).mp hb
            obtain ⟨r, hr, _, _⟩ := (hW b.2).mp (List.mem_map.mpr ⟨b, h1, rfl⟩)
            rw [hr, lw_lst] at h2
            exact ⟨⟨b, h1, rfl⟩, r, hr, h2⟩
          · rintro ⟨⟨b, hb, rfl⟩, r, hr, h2⟩
            exact ⟨b, (hfm b).mpr ⟨hb, by rw [hr, lw_lst]; exact h2⟩, rfl⟩
        have E7 := ((ex.trans e3).trans e5).trans (e6.trans e7)
        refine s_when (et_test (ev_op (ev_len (ev_var rfl) (sq_of hfv)) ev_c rv_I0)) (fun hb H8 e8 => ?_) (fun hb H8 e8 => ⟨_, _, rfl, (e5.trans (e6.trans e7)).trans e8, fun m hm => ?_⟩)
        · have hne : found ≠ [] := fun z => by
            rw [z] at hb
            exact absurd hb (by decide)
          obtain ⟨b0, rest, hms, hb0, hle⟩ := rows_first hne
          have hb0r := ((hfm b0).mp hb0).1
          refine ⟨_, rfl, fp, found, rfl, sq_of (e8 _ _ hfv), fun b hb => sq_of (e8 _ _ (e7 _ _ (hrows b ((hfm b).mp hb).1).1)), fun sp hsp => ⟨sp, _, 0, .ref b0.1, rfl, rfl, sq_of upd_same, atI_nat (j := 0) (by rw [hms]; rfl), ?_⟩⟩
          have n9 := Ex.new (o := .lst ((found.mergeSort rowLe).map fun b => V.ref b.1)) hsp
          have fresh5 : H b0.1 = none := fresh_back ((ex.trans e3).trans e5) (hrows b0 hb0r).2
          exact q _ ((E7.trans e8).trans n9) (.ref b0.1) (some b0.2) ⟨b0.1, rfl, fresh5, n9 _ _ (e8 _ _ (e7 _ _ (hrows b0 hb0r).1))⟩ (Cir.found_some hki hless hnone hF (List.mem_map.mpr ⟨b0, hb0, rfl⟩) fun w' hw' => by
            obtain ⟨b, hb, rfl⟩ := List.mem_map.mp hw'
            exact hle b hb)
        · have hfe : found = [] := by
            cases found with
            | nil => rfl
            | cons b r =>
              have z : ¬ (0 : Int) < (((b :: r).map fun b => V.ref b.1).length : Int) := of_decide_eq_false hb
              rw [List.length_map, List.length_cons] at z
              omega
          rcases Nat.lt_or_ge m j with c | c
          · exact hnone m c
          · obtain rfl : m = j := by omega
            rw [hfe] at hF
            exact hF
      · rintro σ H5 ⟨o5, o6, rfl, e5, hnone⟩
        rw [hxl] at hnone
        refine ⟨_, _, _, rfl, e5, fun u hu => ?_⟩
        rw [htk] at hu
        rcases List.mem_append.mp hu with m | m
        · exact hno u m
        · rw [List.mem_singleton.mp m]
          exact Cir.none_found hki hless fun n hn => hnone n (by omega)
    · rintro σ H4 ⟨o4, o5, o6, rfl, e4, hno⟩
      rw [List.length_map, List.take_length] at hno
      refine (s_ret (v := .non) ev_c fun H5 e5 => ?_ : tRet (tC .non) { nx := fun _ H' => Q .non H', rt := Q } [some (.ref wa), some (.ref ep), o2, o3, o4, o5, o6, none] H4)
      exact q H5 (((ex.trans e3).trans e4).trans e5) .non none rfl fun u hu => hno u ((kG u).mp hu)
end
end SB

set_option Elab.async false
set_option linter.all false
set_option maxRecDepth 100000
namespace SB
open PySem L2 Evl
mutual
def WFit : PyData → Prop
  | .int i => i.natAbs.log2 < 1920
  | .list xs => WFits xs
  | .tuple xs => WFits xs
  | .dict _ => False
  | _ => True
def WFits : List PyData → Prop
  | [] => True
  | d :: r => WFit d ∧ WFits r
end
def Sh (d : PyData) (n m : Nat) : Prop := WFit d ∧ d.shown.length ≤ n ∧ d.depth ≤ m
def ShL (ds : List PyData) (n m : Nat) : Prop := WFits ds ∧ ((PyData.shownAll ds).map (·.length)).sum + 2 * (PyData.shownAll ds).length ≤ n ∧ PyData.depthAll ds ≤ m
theorem ShL.nil {m : Nat} : ShL [] 0 m := ⟨trivial, Nat.le_refl _, Nat.zero_le _⟩
theorem ShL.cons {d : PyData} {r : List PyData} {a b m : Nat} (h : Sh d a m) (k : ShL r b m) : ShL (d :: r) (a + 2 + b) m := by
  refine ⟨⟨h.1, k.1⟩, ?_, Nat.max_le.mpr ⟨h.2.2, k.2.2⟩⟩
  show ((d.shown :: PyData.shownAll r).map (·.length)).sum + 2 * (d.shown :: PyData.shownAll r).length ≤ _
  rw [List.map_cons, List.sum_cons, List.length_cons]
  have := h.2.1
  have := k.2.1
  omega
theorem ShL.le {ds : List PyData} {a b m n : Nat} (h : ShL ds a m) (k : a ≤ b) (e : m ≤ n) : ShL ds b n := ⟨h.1, Nat.le_trans h.2.1 k, Nat.le_trans h.2.2 e⟩
theorem Sh.le {d : PyData} {a b m n : Nat} (h : Sh d a m) (k : a ≤ b) (e : m ≤ n) : Sh d b n := ⟨h.1, Nat.le_trans h.2.1 k, Nat.le_trans h.2.2 e⟩
theorem Sh.lst {ds : List PyData} {n m : Nat} (h : ShL ds n m) : Sh (.list ds) (n + 3) (m + 1) := by
  refine ⟨h.1, ?_, Nat.succ_le_succ h.2.2⟩
  have z := listText_len_le (PyData.shownAll ds)
  have := h.2.1
  show (listText (PyData.shownAll ds)).length ≤ _
  omega
theorem Sh.tup {ds : List PyData} {n m : Nat} (h : ShL ds n m) : Sh (.tuple ds) (n + 3) (m + 1) := by
  refine ⟨h.1, ?_, Nat.succ_le_succ h.2.2⟩
  have z := tupleText_len_le (PyData.shownAll ds)
  have := h.2.1
  show (tupleText (PyData.shownAll ds)).length ≤ _
  omega
theorem str_sh {x : Str} {m : Nat} (h : x.length ≤ 12) (ok : PyData.strOk x = true) : Sh (.str x) 122 m := by
  refine ⟨trivial, ?_, Nat.zero_le _⟩
  have ok' : x.cps.all (fun c => decide (c < 0x110000)) = true := ok
  have z := StrLaws.reprText_len x fun c hc => by
    rw [← Array.all_toList, List.all_eq_true] at ok'
    have := of_decide_eq_true (ok' c hc)
    have e : (16 : Nat) ^ 8 = 4294967296 := by decide
    omega
  show (reprText x).length ≤ 122
  omega
theorem int_len {i : Int} (h : i.natAbs ≤ 3000000000) : (toString i : Str).length ≤ 12 := by
  have e := PySem.int_text_length_le10 (a := i) (k := 10) (by decide) (by omega)
  show (Str.ofString (toString i)).length ≤ 12
  rw [ofString_length]
  omega
theorem num_sh {i : Int} {m : Nat} (h : 0 ≤ i ∧ i < 100) : Sh (.int i) 122 m := by
  refine ⟨?_, ?_, Nat.zero_le _⟩
  · show i.natAbs.log2 < 1920
    have h1 : i.natAbs < 2 ^ 7 := by
      have : (2 : Nat) ^ 7 = 128 := by decide
      omega
    by_cases h0 : i.natAbs = 0
    · rw [h0]
      decide
    · have := (Nat.log2_lt h0).mpr h1
      omega
  · show (toString i : Str).length ≤ 122
    have := int_len (i := i) (by omega)
    omega
theorem all_shl {b m : Nat} : ∀ {ds : List PyData}, (∀ d ∈ ds, Sh d b m) → ShL ds (ds.length * (b + 2)) m
  | [], _ => ShL.nil.le (Nat.zero_le _) (Nat.le_refl _)
  | d :: r, h => (ShL.cons (h d List.mem_cons_self) (all_shl fun x hx => h x (List.mem_cons_of_mem _ hx))).le (by rw [List.length_cons, Nat.succ_mul]; omega) (Nat.le_refl _)
theorem sh2 {a b : PyData} {x y m : Nat} (ha : Sh a x m) (hb : Sh b y m) : Sh (.tuple [a, b]) (x + y + 7) (m + 1) := (Sh.tup (.cons ha (.cons hb .nil))).le (by omega) (Nat.le_refl _)
theorem sh3 {a b c : PyData} {x y z m : Nat} (ha : Sh a x m) (hb : Sh b y m) (hc : Sh c z m) : Sh (.tuple [a, b, c]) (x + y + z + 9) (m + 1) := (Sh.tup (.cons ha (.cons hb (.cons hc .nil)))).le (by omega) (Nat.le_refl _)
theorem words5 : ∀ x ∈ (["time", "task", "send", "resource", "select", "receive", "scope"] : List Str), x.length ≤ 12 ∧ PyData.strOk x = true := by decide +kernel
theorem wd_sh {x : Str} {m : Nat} (h : x ∈ (["time", "task", "send", "resource", "select", "receive", "scope"] : List Str)) : Sh (.str x) 122 m := str_sh (words5 x h).1 (words5 x h).2
theorem rsn_sh {r : Rsn} (h : ∀ i ∈ nums r, 0 ≤ i ∧ i < 100) (hl : (nexts r).length ≤ 10) : Sh (dat r) 2000 4 := by
  cases r with
  | time o => exact (sh2 (m := 0) (wd_sh (by decide +kernel)) (num_sh (h o List.mem_cons_self))).le (by decide) (by decide)
  | task o => exact (sh2 (m := 0) (wd_sh (by decide +kernel)) (num_sh (h o List.mem_cons_self))).le (by decide) (by decide)
  | send o => exact (sh2 (m := 0) (wd_sh (by decide +kernel)) (num_sh (h o List.mem_cons_self))).le (by decide) (by decide)
  | recv o => exact (sh2 (m := 0) (wd_sh (by decide +kernel)) (num_sh (h o List.mem_cons_self))).le (by decide) (by decide)
  | res n o => exact (sh3 (m := 0) (wd_sh (by decide +kernel)) (num_sh (h n List.mem_cons_self)) (num_sh (h o (List.mem_cons_of_mem _ List.mem_cons_self)))).le (by decide) (by decide)
  | sel o => exact (sh2 (m := 2) (wd_sh (by decide +kernel)) (Sh.lst (.cons (sh2 (m := 0) (wd_sh (by decide +kernel)) (num_sh (h o List.mem_cons_self))) .nil))).le (by decide) (by decide)
  | scope s ms =>
    have z := Sh.lst (all_shl (b := 122) (m := 0) (ds := ms.map PyData.int) fun d hd => by
      obtain ⟨i, hi, rfl⟩ := List.mem_map.mp hd
      exact num_sh (h i (List.mem_cons_of_mem _ hi)))
    rw [List.length_map] at z
    have hl' : ms.length ≤ 10 := hl
    exact (sh3 (m := 1) (wd_sh (by decide +kernel)) (num_sh (h s List.mem_cons_self)) z).le (by omega) (by decide)
theorem waits_sh {W : List (Int × Rsn)} (hl : W.length ≤ 8) (h : ∀ w ∈ W, (0 ≤ w.1 ∧ w.1 < 100) ∧ (∀ i ∈ nums w.2, 0 ≤ i ∧ i < 100) ∧ (nexts w.2).length ≤ 10) : Sh (datW W) 30000 6 := by
  have z := Sh.lst (all_shl (b := 2200) (m := 5) (ds := W.map fun w => PyData.tuple [.int w.1, dat w.2]) fun d hd => by
    obtain ⟨w, hw, rfl⟩ := List.mem_map.mp hd
    obtain ⟨h1, h2, h3⟩ := h w hw
    exact (sh2 (m := 4) (num_sh h1) (rsn_sh h2 h3)).le (by decide) (by decide))
  rw [List.length_map] at z
  exact z.le (by omega) (by decide)
mutual
theorem show_of : ∀ {d : PyData}, WFit d → d.showable = true ∧ d.hasDict = false
  | .none, _ => ⟨rfl, rfl⟩
  | .bool _, _ => ⟨rfl, rfl⟩
  | .str _, _ => ⟨rfl, rfl⟩
  | .int i, h => ⟨decide_eq_true h, rfl⟩
  | .list xs, h => showAll_of (ds := xs) h
  | .tuple xs, h => showAll_of (ds := xs) h
  | .dict _, h => h.elim
theorem showAll_of : ∀ {ds : List PyData}, WFits ds → PyData.showableAll ds = true ∧ PyData.hasDictAll ds = false
  | [], _ => ⟨rfl, rfl⟩
  | d :: r, h => by
    have h1 := show_of (d := d) h.1
    have h2 := showAll_of (ds := r) h.2
    refine ⟨?_, ?_⟩
    · show (d.showable && PyData.showableAll r) = true
      rw [h1.1, h2.1]
      rfl
    · show (d.hasDict || PyData.hasDictAll r) = false
      rw [h1.2, h2.2]
      rfl
end
/-- repr(..) of a list's data, where no repr is under way -/
def rReprD (K : PySem.W.Frag) : List V → Hp → VK → Prop := fun xs H Q => ∃ (a : Addr) (d : PyData), xs = [.ref a] ∧ Dp K H (.ref a) d ∧ WFit d ∧ d.depth ≤ 60 ∧ d.shown.length ≤ sizeLine ∧ Q (.str d.shown) H
theorem c_reprD {X : Cx} (hg : X.A.guards = some []) (hu : X.A.units + 64 < cLine) : CallR X (.builtin "repr") (rReprD X.K) := by
  intro pins s σ H vs us Q I r h
  obtain ⟨a, d, rfl, hd, hw, hdp, hz, q⟩ := h
  obtain ⟨u, rfl, ru⟩ := r.one
  cases ru
  obtain ⟨as, rd⟩ := Dp.reads I d (.ref a) _ hd rfl
  have sh := show_of hw
  refine repr_of_reads' rd sh.1 (fun z => by rw [sh.2] at z; cases z) hg (by omega) (fun _ _ e => e) (fun h' u tk hk => ?_) hz
  exact ⟨.str d.shown, H, I.kept (t' := tk) fun b o e => hk b o e, ⟨_, rfl⟩, q⟩
theorem ev_repr {K : PySem.W.Frag} {σ : L2.St} {H : Hp} {ta : TE} {a : Addr} {d : PyData} (ha : Ev ta σ H (.ref a)) (hd : Dp K H (.ref a) d) (h : Sh d 30000 6) : Ev (tCB (rReprD K) (tCons ta tNil)) σ H (.str d.shown) := fun H1 e Q q =>
  ha H1 e _ fun H2 e2 => ⟨a, d, rfl, Dp.mono (e.trans e2) hd, h.1, Nat.le_trans h.2.2 (by decide), Nat.le_trans h.2.1 (by decide), q H2 e2⟩
end SB

set_option Elab.async false
set_option linter.all false
set_option maxRecDepth 100000
namespace SB
open PySem L2 Evl GxR
/-! ### the waits that the law makes -/
structure WB (i : Nat) (W : List (Int × Rsn)) : Prop where
  nd : (W.map (·.1)).Nodup
  len : W.length ≤ 8
  tsk : ∀ w ∈ W, 0 ≤ w.1 ∧ w.1 < (i : Int)
  few : ∀ w ∈ W, (nexts w.2).length ≤ 10
  one : ∀ w ∈ W, (nexts w.2).Nodup
  num : ∀ w ∈ W, ∀ j ∈ nums w.2, 0 ≤ j ∧ j < 100
theorem WB.ok {i : Nat} {W : List (Int × Rsn)} (h : WB i W) : WOk W := ⟨h.nd, h.len, h.few, h.one⟩
theorem WB.sh {i : Nat} {W : List (Int × Rsn)} (h : WB i W) (hi : i ≤ 100) : Sh (datW W) 30000 6 := waits_sh h.len fun w hw => ⟨by have := h.tsk w hw; omega, h.num w hw, h.few w hw⟩
theorem WB.nil : WB 0 [] := ⟨List.nodup_nil, Nat.zero_le _, (fun w h => nomatch h), (fun w h => nomatch h), (fun w h => nomatch h), (fun w h => nomatch h)⟩
theorem WB.next {i : Nat} {W : List (Int × Rsn)} (h : WB i W) : WB (i + 1) W := ⟨h.nd, h.len, fun w hw => by have := h.tsk w hw; omega, h.few, h.one, h.num⟩
theorem WB.snoc {i : Nat} {W : List (Int × Rsn)} {r : Rsn} (h : WB i W) (hl : W.length < 8) (h1 : (nexts r).length ≤ 10) (h2 : (nexts r).Nodup) (h3 : ∀ j ∈ nums r, 0 ≤ j ∧ j < 100) : WB (i + 1) (W ++ [((i : Int), r)]) := by
  have any : ∀ {p : Int × Rsn → Prop}, (∀ w ∈ W, p w) → p ((i : Int), r) → ∀ w ∈ W ++ [((i : Int), r)], p w := fun {p} a b w hw => by
    rcases List.mem_append.mp hw with m | m
    · exact a w m
    · rw [List.mem_singleton.mp m]
      exact b
  refine ⟨?_, by rw [List.length_append]; exact hl, any (fun w hw => by have := h.tsk w hw; omega) (by show 0 ≤ (i : Int) ∧ (i : Int) < _; omega), any h.few h1, any h.one h2, any h.num h3⟩
  rw [List.map_append, List.nodup_append]
  refine ⟨h.nd, by simp, fun a ha b hb e => ?_⟩
  obtain ⟨w, hw, rfl⟩ := List.mem_map.mp ha
  have z : b = (i : Int) := by simpa using hb
  have := h.tsk w hw
  omega
def prs (W : List (Int × Rsn)) : List PyData := W.map fun w => .tuple [.int w.1, dat w.2]
theorem dpa_snoc {K : PySem.W.Frag} {H : Hp} : ∀ {xs : List V} {ds : List PyData} {x : V} {d : PyData}, DpAll K H xs ds → Dp K H x d → DpAll K H (xs ++ [x]) (ds ++ [d])
  | _, _, _, _, .nil, h => .cons h .nil
  | _, _, _, _, .cons a b, h => .cons a (dpa_snoc b h)
theorem dpa_take {K : PySem.W.Frag} {H : Hp} : ∀ {n : Nat} {xs : List V} {ds : List PyData}, DpAll K H xs ds → DpAll K H (xs.take n) (ds.take n)
  | 0, _, _, _ => by rw [List.take_zero, List.take_zero]; exact .nil
  | _ + 1, _, _, .nil => .nil
  | _ + 1, _, _, .cons a b => .cons a (dpa_take b)
/-! ### what first_circle and the law's own search give -/
def resD : Option (List Int) → PyData
  | none => .none
  | some c => .list (c.map PyData.int)
theorem isRes.dp {K : PySem.W.Frag} {res : Option (List Int)} {v : V} {H0 H H1 : Hp} (h : isRes res v H0 H) (e : ∀ p o, H p = some o → v = .ref p → H1 p = some o) : Dp K H1 v (resD res) := by
  cases res with
  | none =>
    obtain rfl : v = .non := h
    exact .non
  | some c =>
    obtain ⟨p, rfl, _, hp⟩ := h
    exact .lst (sq_of (e p _ hp rfl)) ints_dpa
theorem res_shaped (res : Option (List Int)) : SeqAt.shaped (resD res) = true := by
  cases res with
  | none => rfl
  | some c =>
    have h : PyData.canLayAll0 (c.map PyData.int) = true := by
      induction c with
      | nil => rfl
      | cons x c ih => exact ih
    refine Bool.and_eq_true_iff.mpr ⟨h, decide_eq_true ?_⟩
    rw [resD, PyData.depth, PySem.W.depth_ints]
    decide
theorem res_eqv (res : Option (List Int)) : PyData.eqv (resD res) (resD res) = true := by
  cases res with
  | none => rfl
  | some c =>
    show PyData.eqvAll (c.map PyData.int) (c.map PyData.int) = true
    induction c with
    | nil => rfl
    | cons x c ih =>
      show PyData.eqvAll (.int x :: c.map PyData.int) (.int x :: c.map PyData.int) = true
      rw [PyData.eqvAll, ih]
      simp [PyData.eqv]
theorem rv_neRes {K : PySem.W.Frag} {H : Hp} {x y : V} {res : Option (List Int)} (hx : Dp K H x (resD res)) (hy : Dp K H y (resD res)) : RV (rNeD K) x y H (.bl false) := fun H1 e _ q =>
  ⟨resD res, resD res, Dp.mono e hx, Dp.mono e hy, res_shaped _, res_shaped _, by rw [res_eqv]; exact q H1 (.refl H1)⟩
theorem isC_len {G : Cir.Graph} {c : List Int} (h : Cir.IsC G (some c)) : c.length ≤ (Cir.keys G).length := by
  obtain ⟨t, ht, hno, r, rfl, hw, hm, _⟩ := h
  obtain ⟨h1, h2⟩ := Cir.short hno hw hm
  refine Cir.nodup_le h2 fun x hx => ?_
  rcases List.mem_cons.mp hx with e | m
  · rw [e]
    exact ht
  · exact (h1 x m).2
theorem hl_mut {TP p : Addr} {A B : Hp} {o : HO} (e : Evl.Ex (hl TP A) (hl TP B)) (h : A p = none) : Evl.Ex (hl TP A) (hl TP (upd B p o)) := fun b u q => by
  have q2 := hl_le b u q
  have nb : b ≠ p := fun z => by rw [z, h] at q2; cases q2
  have z := e b u q
  by_cases hb : b = TP
  · rw [hb] at q
    unfold hl at q
    rw [if_pos rfl] at q
    cases q
  · rw [hl_ne hb] at z ⊢
    rw [upd_ne nb]
    exact z
def rMin2 : List V → Hp → VK → Prop := fun xs H Q => ∃ i j, xs = [.int i, .int j] ∧ Q (.int (if j < i then j else i)) H
theorem c_min2 {X : Cx} (hc : X.calm = true := by rfl) : CallR X (.builtin "min") rMin2 := call_min2 hc
theorem ev_min2 {σ : L2.St} {H : Hp} {ta tb : TE} {i j : Int} (ha : Ev ta σ H (.int i)) (hb : Ev tb σ H (.int j)) : Ev (tCB rMin2 (tCons ta (tCons tb tNil))) σ H (.int (if j < i then j else i)) := fun H1 e Q q =>
  ha H1 e _ fun H2 e2 => hb H2 (e.trans e2) _ fun H3 e3 => ⟨i, j, rfl, q H3 (e2.trans e3)⟩
def W2 (cell : Int) (i : Nat) : List (Int × Rsn) := (List.range i).map fun j : Nat => ((j : Int), Rsn.task (((j : Int) * 3 + cell) % 10))
theorem W2_succ (cell : Int) (i : Nat) : W2 cell (i + 1) = W2 cell i ++ [((i : Int), Rsn.task (((i : Int) * 3 + cell) % 10))] := by
  unfold W2
  rw [List.range_succ, List.map_append]
  rfl
theorem W2_len (cell : Int) (i : Nat) : (W2 cell i).length = i := by
  unfold W2
  rw [List.length_map, List.length_range]
theorem W2_ok (cell : Int) : ∀ i : Nat, i ≤ 8 → WB i (W2 cell i)
  | 0, _ => WB.nil
  | i + 1, h => by
    rw [W2_succ]
    refine (W2_ok cell i (by omega)).snoc (by rw [W2_len]; omega) (by show 1 ≤ 10; decide) (nd1 _) fun j hj => ?_
    rw [List.mem_singleton.mp (show j ∈ [((i : Int) * 3 + cell) % 10] from hj)]
    omega
theorem W2_take (cell : Int) : (prs (W2 cell 10)).take 8 = prs (W2 cell 8) := by
  have e : W2 cell 10 = W2 cell 8 ++ [(((8 : Nat) : Int), Rsn.task ((((8 : Nat) : Int) * 3 + cell) % 10))] ++ [(((9 : Nat) : Int), Rsn.task ((((9 : Nat) : Int) * 3 + cell) % 10))] := by
    rw [W2_succ cell 9, W2_succ cell 8]
  unfold prs
  rw [e, List.map_append, List.map_append, List.append_assoc, List.take_append_of_le_length (by rw [List.length_map, W2_len]; decide), List.take_of_length_le (by rw [List.length_map, W2_len]; decide)]
theorem cut8 (xs : List V) (h : xs.length = 10) : cutV xs none (some 8) = xs.take 8 := by
  unfold cutV
  rw [show (some (8 : Int)) = some (((8 : Nat) : Int)) from rfl, HT.sIx_nat, HT.sIx_none, h, List.drop_zero]
  rfl
section
variable {P : Program} {w : World} {K : PySem.W.Frag} {mg : Str → Option Value} {base : Heap}
def spLaw (K : PySem.W.Frag) (TP : Addr) : Sp := fun vs H Q _ => ∃ (a : Addr) (ns : List Int), vs = [.ref a] ∧ SqL K H a (ns.map V.int) ∧ ns.length ≤ 63 ∧ TabG H TP ∧ ∀ H', Q (.bl true) H'
abbrev s_law : Stmt := topS 13
theorem sc_law : FnScope ["script", "k", "cell", "draws", "waits", "task", "kept", "told", "due"] ["script"] (defScope s_law) := ⟨rfl, rfl, rfl, by decide +kernel, rfl, by decide +kernel, by decide +kernel⟩
theorem ok_law {f TP : Addr} {fd : FuncData} (F : Fun K "law" "law" s_law f fd) (T : Txt K mg) (F__law_cell : Fn P w K mg base 1 "_law_cell" ["script", "k"] (spCell K)) (F__law_digits : Fn P w K mg base 1 "_law_digits" ["cell", "base", "most"] (spDigits K)) (F__law_wait : Fn P w K mg base 1 "_law_wait" ["draw", "tasks"] (spWait K))
    (F_first_circle : Fn P w K mg base 2 "first_circle" ["waits"] (spFirst K TP)) (F__law_circle : Fn P w K mg base 2 "_law_circle" ["waits"] (spLC K)) : Here P w K mg base 3 f fd "script" (spLaw K TP) := by
  refine here_of F sc_law (k := 2) fun cdv s H v Q E hr h => ?_
  obtain ⟨a, ns, e, hS, hlen, hT, q⟩ := h
  cases e
  have nd := sc_law.nd
  have hg : (callerA.deeper (PyProof.Rows.envOfC "law" (defScope s_law) s.heap.objs.size f cdv)).guards = some [] := rfl
  have hu : (callerA.deeper (PyProof.Rows.envOfC "law" (defScope s_law) s.heap.objs.size f cdv)).units + 64 < cLine := by have := hr.un; omega
  have hr__law_cell := hr.mono (show 1 ≤ 2 by decide)
  have hr__law_digits := hr.mono (show 1 ≤ 2 by decide)
  have hr__law_wait := hr.mono (show 1 ≤ 2 by decide)
  have hr_first_circle := hr
  have hr__law_circle := hr
  refine ⟨_, (pss_cons (ps_for PassesOwn.never rfl (pi_range1 rfl T.range_ (pa_cons (pe_callB c_min2 (by rfl) T.min_ (by decide +kernel) (pa_cons (pe_op op_add pe_int (pe_callB c_len (by rfl) T.len_ (by decide +kernel) (pa_cons (pv 0) pa_nil))) (pa_cons pe_int pa_nil))) pa_nil)) (pg_name (i := 1) nd rfl (by first | exact .inl rfl | exact .inr rfl))
      (pss_cons (ps_set (i := 2) nd rfl (by first | exact .inl rfl | exact .inr rfl) (pe_op op_add (pe_fn F__law_cell hr__law_cell (by rfl) (pa_cons (pv 0) (pa_cons (pv 1) pa_nil))) (pv 1)))
      (pss_cons (ps_set (i := 3) nd rfl (by first | exact .inl rfl | exact .inr rfl) (pe_fn F__law_digits hr__law_digits (by rfl) (pa_cons (pe_op op_fdivW (pv 2) pe_int) (pa_cons pe_int (pa_cons pe_int pa_nil)))))
      (pss_cons (ps_set (i := 4) nd rfl (by first | exact .inl rfl | exact .inr rfl) (pe_lst pa_nil))
      (pss_cons (ps_for PassesOwn.never rfl (pi_range1 rfl T.range_ (pa_cons pe_int pa_nil)) (pg_name (i := 5) nd rfl (by first | exact .inl rfl | exact .inr rfl))
      (pss_one (ps_if (PW.pt (pw_and (pt_cmpR op_gt (pe_op o_mod (pe_op op_fdivW (pe_ix ix_list (pv 3) (pv 5) (fun _ _ => rfl)) pe_int) pe_int) pe_int (nomark _)) (pw_and1 (pt_cmpR op_lt (pe_callB c_len (by rfl) T.len_ (by decide +kernel) (pa_cons (pv 4) pa_nil)) pe_int (nomark _))))) (pss_one (ps_expr (pe_bm PySem.F.plainAttrs_list PySem.F.slot_list_append PySem.F.type_list_append mt_append (pv 4) (pa_cons (pe_tup (pa_cons (pv 5) (pa_cons (pe_fn F__law_wait hr__law_wait (by rfl) (pa_cons (pe_ix ix_list (pv 3) (pv 5) (fun _ _ => rfl)) (pa_cons (pv 5) pa_nil))) pa_nil))) pa_nil)))) pss_nil)))
      (Evl.pss_cut (ps_if (pt_cmpR op_eq (pe_op o_mod (pv 2) pe_int) pe_int (nomark _)) (pss_one (ps_set (i := 4) nd rfl (by first | exact .inl rfl | exact .inr rfl) (pe_slice sl_list (pe_lc (own := [("task", 5)]) (tt := tYes) (by rfl) nd (pi_range1 rfl T.range_ (pa_cons pe_int pa_nil)) (blkOk_by (own := [("task", 5)]) (N := ["script", "k", "cell", "draws", "waits", "task", "kept", "told", "due"]) (sc := defScope s_law) (by decide +kernel)) (fun _ _ _ _ _ => (pg_name (i := 5) nd rfl (by first | exact .inl rfl | exact .inr rfl))) (fun _ _ _ _ _ => pts_nil) (fun _ _ _ _ _ => (pe_tup (pa_cons (pv 5) (pa_cons (pe_tup (pa_cons pe_str (pa_cons (pe_op o_mod (pe_callTy c_int (by rfl) T.int_ (by decide +kernel) (pa_cons (pe_op op_add (pe_op op_mul (pv 5) pe_int) (pv 2)) pa_nil)) pe_int) pa_nil))) pa_nil))))) po_none (po_some pe_int)))) pss_nil)
      (pss_cons (ps_set (i := 6) nd rfl (by first | exact .inl rfl | exact .inr rfl) (pe_callB (c_reprD hg hu) (by rfl) T.repr_ (by decide +kernel) (pa_cons (pv 4) pa_nil)))
      (pss_cons (ps_set (i := 7) nd rfl (by first | exact .inl rfl | exact .inr rfl) (pe_fn F_first_circle hr_first_circle (by rfl) (pa_cons (pv 4) pa_nil)))
      (pss_cons (ps_set (i := 8) nd rfl (by first | exact .inl rfl | exact .inr rfl) (pe_fn F__law_circle hr__law_circle (by rfl) (pa_cons (pv 4) pa_nil)))
      (pss_cons (ps_if (PW.pt (pw_or (pt_cmpR op_ne (pe_callB (c_reprD hg hu) (by rfl) T.repr_ (by decide +kernel) (pa_cons (pv 4) pa_nil)) (pv 6) (nomark _)) (pw_or1 (pt_cmpR (op_neD hr.units) (pv 7) (pv 8) (nomark _))))) (pss_one (ps_ret pe_bl)) pss_nil)
      (pss_one (ps_if (pt_cmpR op_notN (pv 7) pe_non (nomark _)) (pss_cons (ps_if (pt_not (pt_val (pe_callB isi1 (by rfl) T.isinstance_ (by decide +kernel) (pa_cons (pv 7) (pa_cons (pe_bltn (v := .ty "list") (u := .type "list") (by rfl) T.list_ (by decide +kernel) rfl) pa_nil))))) (pss_one (ps_ret pe_bl)) pss_nil)
      (pss_cons (ps_expr (pe_bm PySem.F.plainAttrs_list PySem.F.slot_list_append PySem.F.type_list_append mt_append (pv 7) (pa_cons pe_int pa_nil)))
      (pss_one (ps_if (pt_cmpR (op_neD hr.units) (pe_fn F_first_circle hr_first_circle (by rfl) (pa_cons (pv 4) pa_nil)) (pv 8) (nomark _)) (pss_one (ps_ret pe_bl)) pss_nil)))) pss_nil))))))))))))
      (pss_one (ps_ret (pe_cmpR op_isN (pe_fn F_first_circle hr_first_circle (by rfl) (pa_cons (pe_lst pa_nil) pa_nil)) pe_non (nomark _))))), ?_⟩
  have hSh : SqL K (hl TP H) a (ns.map V.int) := sq_hl hT hS
  refine q_forR1 (ea_cons (ev_min2 (ev_op ev_c (ev_len (ev_var rfl) hS) rv_I0) ev_c) ea_nil) ⟨by split <;> omega, by split <;> omega⟩ (fun i σ H' => ∃ (o1 o2 o3 o4 o5 o6 o7 o8 : Option V), σ = [some (.ref a), o1, o2, o3, o4, o5, o6, o7, o8] ∧ Evl.Ex (hl TP H) (hl TP H') ∧ TabG H' TP)
    (fun H1 e1 => ⟨none, none, none, none, none, none, none, none, rfl, hl_ex e1, tabG_ex hT e1⟩) ?_ ?_
  · rintro i σ H1 hi ⟨o1, o2, o3, o4, o5, o6, o7, o8, rfl, e1, t1⟩
    have hS1 := ex_l (e1.trans hl_le) hSh
    refine ⟨_, rfl, _, rfl, a, ns, i, rfl, hS1, fun c hc _ => ⟨_, rfl, _, _, rfl, rfl, ?_⟩⟩
    have hcell : 0 ≤ c + (i : Int) := by omega
    refine ⟨_, rfl, _, _, rfl, rfl, wide_div (by decide) (b := 64) (by decide) (by decide) (by decide), (c + (i : Int)) / 3, 27720, 10, rfl, Int.ediv_nonneg hcell (by decide), by decide, by decide, by decide, by decide, fun dp H2 ds hdp e2 hdv hdl hdd => ?_⟩
    refine q_asgL (el_lst ea_nil (by decide)) fun wp H3 hwp e3 hwv => ?_
    have e23 := e2.trans e3
    have hd3 := e3 _ _ hdv
    refine q_forR1 (ea_cons ev_c ea_nil) ⟨by decide, by decide⟩ (fun j σ H' => ∃ (o5 : Option V) (W : List (Int × Rsn)) (xs : List V), σ = [some (.ref a), some (.int (i : Int)), some (.int (c + (i : Int))), some (.ref dp), some (.ref wp), o5, o6, o7, o8] ∧ Evl.Ex H2 H' ∧ H' wp = some (.lst xs) ∧ DpAll K (hl wp H') xs (prs W) ∧ xs.length = W.length ∧ WB j W)
      (fun H4 e4 => ⟨o5, [], [], rfl, e3.trans e4, e4 _ _ hwv, .nil, rfl, WB.nil⟩) ?_ ?_
    · rintro j σ H4 hj ⟨o5, W, xs, rfl, e4, hw4, hall, hxl, hWB⟩
      have hj10 : j < 10 := by omega
      have hdl' : ds.length = 10 := hdl
      have hd4 := e4 _ _ hdv
      have hat : ∀ (H' : Hp), Evl.Ex H4 H' → Ev (tOp (rIxL K) (tVar 3) (tVar 5)) [some (.ref a), some (.int (i : Int)), some (.int (c + (i : Int))), some (.ref dp), some (.ref wp), some (.int (j : Int)), o6, o7, o8] H' (.int (ds.getD j 0)) := fun H' e => ev_ixL (ev_var rfl) (ev_var rfl) (sq_of (e _ _ hd4)) (atI_nat (by
        rw [List.getElem?_map, List.getElem?_eq_getElem (by omega), List.getD_eq_getElem?_getD, List.getElem?_eq_getElem (by omega)]
        rfl))
      refine s_when (et_and (et_test (ev_op (ev_op (ev_op (hat H4 (.refl H4)) ev_c (rv_I (wide_div (by decide) (b := 64) (by decide) (by decide) (by decide)))) ev_c (rv_I (by unfold CPos; decide))) ev_c rv_I0)) fun _ => et_test (ev_op (ev_len (ev_var rfl) (sq_of hw4)) ev_c rv_I0)) (fun hb H5 s5 => ?_) (fun hb H5 s5 => ⟨_, W, xs, rfl, e4.trans s5, s5 _ _ hw4, DpAll.mono (hl_ex s5) hall, hxl, hWB.next⟩)
      have hl8 : W.length < 8 := by
        obtain ⟨_, h2⟩ := Bool.and_eq_true_iff.mp hb
        have z : (xs.length : Int) < 8 := of_decide_eq_true h2
        omega
      have hw5 := s5 _ _ hw4
      refine ⟨_, rfl, .inl ⟨rfl, _, sq_of hw5⟩, _, rfl, hat H5 s5 H5 (.refl H5) _ fun H6 e6 => ⟨_, rfl, ds.getD j 0, .int (j : Int), rfl, fun v H7 r e7 hdp h1 h2 h3 => ⟨by show 2 ≤ sizeLine; decide, fun tp htp => ⟨wp, xs, .ref tp, rfl, rfl, ?_, sz_lt (by omega), ?_⟩⟩⟩⟩
      · have ntw : wp ≠ tp := fun z => by rw [← z, e7 _ _ (e6 _ _ hw5)] at htp; cases htp
        rw [upd_ne ntw]
        exact e7 _ _ (e6 _ _ hw5)
      · have n8 := Ex.new (o := .tup [.int (j : Int), v]) htp
        have ntw : tp ≠ wp := fun z => by rw [z, e7 _ _ (e6 _ _ hw5)] at htp; cases htp
        refine ⟨_, W ++ [((j : Int), r)], xs ++ [.ref tp], rfl, Ex.mut ((e4.trans s5).trans ((e6.trans e7).trans n8)) hwp, upd_same, ?_, by rw [List.length_append, List.length_append, hxl]; rfl, hWB.snoc hl8 h1 h2 h3⟩
        rw [hl_upd]
        have z := dpa_snoc (DpAll.mono (hl_ex (s5.trans ((e6.trans e7).trans n8))) hall) (Dp.tup (st_of (by rw [hl_ne ntw]; exact upd_same)) (.cons (.int (j : Int)) (.cons (Dp.mono (hl_ex n8) (hdp wp (by rw [e6 _ _ hw5]; intro y; cases y))) .nil)))
        unfold prs at z ⊢
        rw [List.map_append]
        exact z
    · rintro σ H4 ⟨o5, W, xs, rfl, e4, hw4, hall, hxl, hWB⟩
      refine q_cut (M := fun σ' H' => ∃ (o5 : Option V) (wv : Addr) (W : List (Int × Rsn)), σ' = [some (.ref a), some (.int (i : Int)), some (.int (c + (i : Int))), some (.ref dp), some (.ref wv), o5, o6, o7, o8] ∧ Evl.Ex H2 H' ∧ Dp K H' (.ref wv) (datW W) ∧ WB 10 W) ?_ ?_
      · refine s_when (et_test (ev_op (ev_op (ev_var rfl) ev_c (rv_I (by unfold CPos; decide))) ev_c (rv_eq rfl))) (fun hb H5 s5 => ?_) (fun hb H5 s5 => ⟨_, wp, W, rfl, e4.trans s5, .lst (sq_of (s5 _ _ hw4)) (DpAll.mono s5 (DpAll.mono hl_le hall)), hWB⟩)
        refine ⟨10, rfl, by decide, by decide, fun Dl hD => lc_range (lo := 0) (n := 10) (fun j H' => ∃ xs, H' Dl = some (.lst xs) ∧ DpAll K (hl Dl H') xs (prs (W2 (c + (i : Int)) j)) ∧ xs.length = j ∧ Evl.Ex H5 H') ⟨[], upd_same, .nil, rfl, Ex.new hD⟩ (fun j H' hj ⟨xs, hv, hall, hxl, ex⟩ => ?_) (fun H' ⟨xs, hv, hall, hxl, ex⟩ => ?_)⟩
        · have ej : (0 : Int) + (j : Int) = (j : Int) := Int.zero_add _
          rw [ej]
          have hm : EvU (tTup (tCons (tC (.str "task")) (tCons (tOp (rI CPos fun i j => .int (i % j)) (tCB rInt1 (tCons (tOp (rI0 fun i j => .int (i + j)) (tOp (rI CMul fun i j => .int (i * j)) (tVar 5) (tC (.int 3))) (tVar 2)) tNil)) (tC (.int 10))) tNil))) [some (.ref a), some (.int (i : Int)), some (.int (c + (i : Int))), some (.ref dp), some (.ref wp), some (.int (j : Int)), o6, o7, o8] H' [.str "task", .int (((j : Int) * 3 + (c + (i : Int))) % 10)] :=
            eu_tup (ea_cons ev_c (ea_cons (ev_op (ev_int (ev_op (ev_op (ev_var rfl) ev_c (rv_I (.inl ⟨by omega, by omega⟩))) (ev_var rfl) rv_I0)) ev_c (rv_I (by unfold CPos; decide))) ea_nil)) (by show 2 ≤ 100000; decide)
          refine ⟨rfl, ?_⟩
          unfold tYes
          dsimp only
          rw [if_pos rfl]
          refine ⟨_, rfl, hm H' (.refl H') _ fun p1 H6 hp1 e6 hv6 => ⟨by show 2 ≤ sizeLine; decide, fun p2 hp2 => ?_⟩⟩
          have n7 := Ex.new (o := .tup [.int (j : Int), .ref p1]) hp2
          have hvD := n7 _ _ (e6 _ _ hv)
          have n1D : p1 ≠ Dl := fun z => by rw [z, hv] at hp1; cases hp1
          have n2D : p2 ≠ Dl := fun z => by rw [z, e6 _ _ hv] at hp2; cases hp2
          refine ⟨xs, hvD, sz_lt (by omega), xs ++ [.ref p2], upd_same, ?_, by rw [List.length_append, hxl]; rfl, Ex.mut (ex.trans (e6.trans n7)) hD⟩
          rw [hl_upd, W2_succ]
          have z := dpa_snoc (DpAll.mono (hl_ex (e6.trans n7)) hall) (Dp.tup (st_of (by rw [hl_ne n2D]; exact upd_same)) (.cons (.int (j : Int)) (.cons (.tup (st_of (by rw [hl_ne n1D]; exact n7 _ _ hv6)) (.cons (.str "task") (.cons (.int (((j : Int) * 3 + (c + (i : Int))) % 10)) .nil))) .nil)))
          unfold prs at z ⊢
          rw [List.map_append]
          exact z
        · refine ⟨8, rfl, Dl, xs, rfl, sq_of hv, fun p hp => ⟨_, p, W2 (c + (i : Int)) 8, rfl, (e4.trans s5).trans (ex.trans (Ex.new hp)), ?_, (W2_ok _ 8 (by decide)).next.next⟩⟩
          rw [cut8 xs hxl]
          have z := dpa_take (n := 8) (DpAll.mono (hl_le.trans (Ex.new (o := .lst (xs.take 8)) hp)) hall)
          rw [W2_take] at z
          exact .lst (sq_of upd_same) z
      · rintro σ H5 ⟨o5, wv, W, rfl, e5, hW, hWB⟩
        have hsh := hWB.sh (by decide)
        have t5 : TabG H5 TP := tabG_ex (tabG_ex t1 e2) e5
        refine q_asg (ev_repr (ev_var rfl) hW hsh) fun H6 s6 => ?_
        have t6 := tabG_ex t5 s6
        have hW6 := Dp.mono s6 hW
        have hWh : Dp K (hl TP H6) (.ref wv) (datW W) := Dp.hl t6 hW6
        refine ⟨_, rfl, .ref wv, W, rfl, hW6, hWB.ok, t6, fun H7 e7 t7 hf7 v7 res hr7 hc7 => ?_⟩
        have hW7 := Dp.mono (e7.trans hl_le) hWh
        refine ⟨_, rfl, .ref wv, W, rfl, hW7, hWB.ok, fun H8 e8 v8 res8 hr8 hc8 => ?_⟩
        obtain rfl := Cir.isC_uniq hc7 hc8
        have t8 := tabG_ex t7 e8
        have e78 := e7.trans (hl_ex e8)
        have hW8 := Dp.mono (e78.trans hl_le) hWh
        have d7 : Dp K H8 v7 (resD res) := hr7.dp fun p o hp _ => e8 _ _ hp
        have d8 : Dp K H8 v8 (resD res) := hr8.dp fun p o hp _ => hp
        have cmp : ∀ {H9 : Hp} {σ : L2.St} {x y : V} {tx ty : TE}, Ev tx σ H9 x → Ev ty σ H9 y → Dp K H9 x (resD res) → Dp K H9 y (resD res) → EvT (tTest (tOp (rNeD K) tx ty)) σ H9 false := fun hx hy dx dy => et_test (ev_op hx hy (rv_neRes dx dy))
        refine q_when (b := false) (et_is (et_or (et_test (ev_op (ev_repr (ev_var rfl) hW8 hsh) (ev_var rfl) (rv_ne rfl))) fun _ => cmp (ev_var rfl) (ev_var rfl) d7 d8) (by rw [decide_eq_true rfl]; rfl)) (fun hb => nomatch hb) fun _ H9 s9 => ?_
        have e19 : Evl.Ex (hl TP H1) (hl TP H9) := (((hl_ex e2).trans (hl_ex e5)).trans (hl_ex s6)).trans (e78.trans (hl_ex s9))
        have t9 := tabG_ex t8 s9
        cases res with
        | none =>
          obtain rfl : v7 = .non := hr7
          exact s_when (b := false) (et_is (et_test (ev_op (ev_var rfl) ev_c (fun H1 e Q q => ⟨rfl, q H1 (.refl H1)⟩))) (by rw [decide_eq_true rfl]; rfl)) (fun hb => nomatch hb) fun _ H10 s10 => ⟨_, _, _, _, _, _, _, _, rfl, e1.trans (e19.trans (hl_ex s10)), tabG_ex t9 s10⟩
        | some cc =>
          obtain ⟨tp, rfl, htp6, htp7⟩ := hr7
          obtain ⟨du, rfl, hdu7, hdu8⟩ := hr8
          have htp9 := s9 _ _ (e8 _ _ htp7)
          refine s_when (b := true) (et_is (et_test (ev_op (ev_var rfl) ev_c (fun H1 e Q q => ⟨rfl, q H1 (.refl H1)⟩))) (by rw [decide_eq_false (by intro z; cases z)]; rfl)) (fun _ H10 s10 => ?_) (fun hb => nomatch hb)
          have htp10 := s10 _ _ htp9
          refine q_when (b := false) (et_is (et_not (et_B (ev_isi (ev_var rfl) (fun H1 e => ty_refL (sq_of (e _ _ htp10))) (show kitB "list" "list" = some true by decide +kernel)))) rfl) (fun hb => nomatch hb) fun _ H11 s11 => ?_
          have hc8 := isC_len hc7
          have hkl : (Cir.keys (gW W)).length ≤ 8 := by
            unfold Cir.keys gW
            rw [List.length_map, List.length_map]
            exact hWB.len
          refine q_app (s11 _ _ htp10) (ev_var rfl) ev_c (by rw [List.length_map]; omega) fun H12 s12 => ?_
          have htp12 := s12 _ _ (s11 _ _ htp10)
          have ndt : du ≠ tp := fun z => by rw [z, htp7] at hdu7; cases hdu7
          have t12 := tabG_ex (tabG_ex (tabG_ex t9 s10) s11) s12
          have ntp : TP ≠ tp := fun z => by
            obtain ⟨ps, hp, _⟩ := t12
            rw [z, htp12] at hp
            cases hp
          have e6c : Evl.Ex (hl TP H6) (hl TP H12) := e78.trans (hl_ex (s9.trans (s10.trans (s11.trans s12))))
          have e6d := hl_mut (o := .lst (cc.map V.int ++ [V.int 11])) e6c htp6
          generalize hH13 : upd H12 tp (.lst (cc.map V.int ++ [V.int 11])) = H13 at e6d
          have t13 : TabG H13 TP := by
            obtain ⟨ps, hp, z⟩ := t12
            exact ⟨ps, by rw [← hH13, upd_ne ntp]; exact hp, z⟩
          have hdu13 : H13 du = some (.lst (cc.map V.int)) := by
            rw [← hH13, upd_ne ndt]
            exact s12 _ _ (s11 _ _ (s10 _ _ (s9 _ _ hdu8)))
          refine ⟨_, rfl, .ref wv, W, rfl, Dp.mono (e6d.trans hl_le) hWh, hWB.ok, t13, fun H14 e14 t14 _ v9 res9 hr9 hc9 => ?_⟩
          obtain rfl := Cir.isC_uniq hc7 hc9
          have ndu : du ≠ TP := fun z => by
            obtain ⟨ps, hp, _⟩ := t13
            rw [← z, hdu13] at hp
            cases hp
          have hdu14 : H14 du = some (.lst (cc.map V.int)) := hl_le _ _ (e14 _ _ (by rw [hl_ne ndu]; exact hdu13))
          refine ⟨_, rfl, resD (some cc), resD (some cc), hr9.dp fun p o hp _ => hp, .lst (sq_of hdu14) ints_dpa, res_shaped _, res_shaped _, _, rfl, ?_⟩
          rw [res_eqv]
          exact iF rfl ⟨_, _, _, _, _, _, _, _, rfl, e1.trans ((((hl_ex e2).trans (hl_ex e5)).trans (hl_ex s6)).trans (e6d.trans e14)), t14⟩
  · rintro σ H1 ⟨o1, o2, o3, o4, o5, o6, o7, o8, rfl, e1, t1⟩
    refine ⟨by show 0 ≤ sizeLine; exact Nat.zero_le _, fun l hl0 => ⟨.ref l, [], rfl, .lst (sq_of upd_same) .nil, WB.nil.ok, tabG_ex t1 (Ex.new hl0), fun H3 e3 t3 _ v res hr hc => ⟨rfl, ?_⟩⟩⟩
    cases res with
    | none =>
      obtain rfl : v = .non := hr
      rw [decide_eq_true rfl]
      exact q H3
    | some cc =>
      obtain ⟨t, ht, _⟩ := hc
      cases ht
end
end SB

set_option Elab.async false
set_option linter.all false
set_option maxRecDepth 100000
namespace SB
open PySem PySem.Spec PyProof.Rows L2 GxR
/-! ### the claim's call where one def has a table of code objects, and the law shows what it made -/
def scriptTH (K : PySem.W.Frag) (a TP : Addr) (vs : List Value) (ns : List Int) : Hp := fun b => if b = TP then some (.tbl #[]) else scriptH K a vs ns b
theorem hereT_call {P : Program} {w : World} {K : PySem.W.Frag} {mg mb : Str → Option Value} {k : Nat} {fa a c TP : Addr} {fd : FuncData} {x : Str} {sp : Sp} {s : Shared} {vs : List Value} {ns : List Int}
    (KX : K.In s.heap) (hg : s.heap.Ns mainGlobals mg) (hb : s.heap.Ns builtinsNs mb) (hbb : ∀ x : Str, x ≠ "__name__" → mb x = bootBuiltins x) (hlim : s.heap.NoLimit) (hgen : s.gens = #[])
    (hT : s.heap.get? TP = some { cls := .none, data := .fields #[] }) (nT : K.lookup TP = none) (C : PySem.W.CodeHd s.heap c TP)
    (hbm : ∃ (bm : Addr) (ob : Obj), mg "__builtins__" = some (.ref bm) ∧ bm ≠ builtinsNs ∧ s.heap.get? bm = some ob ∧ ob.cls = .type "module" ∧ ob.dict = some builtinsNs ∧ ob.data = .plain)
    (ha : s.heap.get? a = some { cls := .type "list", data := .seq vs.toArray }) (hi : IntsAre vs ns) (hl : ns.length ≤ sizeLine) (hr : Room k callerA)
    (F : ∀ base : Heap, K.In base → base.Ns mainGlobals mg → TabB base mg c TP → Here P w K mg base k fa fd x sp) (hbind : ∀ (s : Shared) (u : Value), BindsTo s fd ⟨[u], []⟩ [(x, u)])
    (hsp : ∀ H : Hp, SqL K H a (ns.map V.int) → H TP = some (.tbl #[]) → sp [.ref a] H (fun v _ => v = .bl true) fun _ _ _ => False) :
    codeAny (model P w) callerA (.call (.ref fa) ⟨[.ref a], []⟩) (fun r s' => r = .ok (.ret (.bool true)) ∧ OldK s.heap s'.heap ∧ s'.os = s.os ∧ AllBare s'.gens) s := by
  have rv : Vals (ns.map V.int) vs := vals_ints hi
  have hvl := hi.length
  have naT : a ≠ TP := fun e => by
    rw [e, hT] at ha
    have z : Data.fields #[] = Data.seq vs.toArray _ := congrArg Obj.data (Option.some.inj ha)
    cases z
  let H := scriptTH K a TP vs ns
  have HT : H TP = some (.tbl #[]) := if_pos rfl
  have Hn : ∀ {b : Addr}, b ≠ TP → H b = scriptH K a vs ns b := fun {b} n => if_neg n
  -- objects that are neither a list nor a table are in nobody's hands
  have other : ∀ {b : Addr} {o : Obj}, s.heap.get? b = some o → (∀ ws n, o.data ≠ .seq ws n) → o.data ≠ .fields #[] → H b = none := fun {b o} e h1 h2 => by
    by_cases n : b = TP
    · rw [n, hT] at e
      cases e
      exact absurd rfl h2
    · rw [Hn n]
      cases q : scriptH K a vs ns b with
      | none => rfl
      | some u =>
        obtain ⟨eb, _, _⟩ := scriptH_some q
        rw [eb, ha] at e
        cases e
        exact absurd rfl (h1 _ _)
  have nsH : ∀ {b : Addr} {m : Str → Option Value}, s.heap.Ns b m → (hidT s.heap H).Ns b m := fun {b m} z => by
    obtain ⟨o, es, ep, e, d, r⟩ := z
    exact ⟨o, es, ep, hidT_get e (other e (fun _ _ z => by rw [d] at z; cases z) (fun z => by rw [d] at z; cases z)), d, r⟩
  have kin : K.In (hidT s.heap H) := fun b o e => hidT_get (KX b o e) (by
    have n : b ≠ TP := fun z => by rw [z, nT] at e; cases e
    rw [Hn n]
    cases q : scriptH K a vs ns b with
    | none => rfl
    | some u =>
      obtain ⟨eb, hk, _⟩ := scriptH_some q
      rw [eb, hk] at e
      cases e)
  have hok : HOk P w H s.heap := fun b u q => by
    by_cases n : b = TP
    · rw [n, HT] at q
      cases q
      rw [n]
      exact hT
    · rw [Hn n] at q
      obtain ⟨eb, _, eu⟩ := scriptH_some q
      rw [eb, eu]
      exact ⟨ha, by rw [List.length_map]; exact hl, vs, _, rv, ha⟩
  have hsq : SqL K H a (ns.map V.int) := by
    cases hk : K.lookup a with
    | none => exact .inl (.inr ⟨{ cls := .type "list", data := .seq vs.toArray }, by rw [Hn naT]; exact if_pos ⟨rfl, hk⟩⟩)
    | some o =>
      have e := KX a o hk
      rw [ha] at e
      cases e
      exact .inr ⟨_, vs.toArray, _, hk, rfl, rfl, rfl, by rw [List.size_toArray, hvl]; exact hl, by simpa using rv⟩
  have hmod : Mod K mg (hidT s.heap H) := ⟨kin, nsH hg, ⟨mb, nsH hb, hbb⟩, hlim.elim fun mc z => ⟨mc, nsH z.1, z.2⟩⟩
  have tb : TabB (hidT s.heap H) mg c TP := by
    refine ⟨?_, ?_, fun z => ?_⟩
    · obtain ⟨o, us, file, tf, flags, tg, inF, text, tt, e1, r1, r2, r3, r⟩ := C
      exact ⟨o, us, file, tf, flags, tg, inF, text, tt, hidT_get e1 (other e1 (fun _ _ z => by rw [r2] at z; cases z) (fun z => by
        rw [r2] at z
        cases z
        simp at r3)), r1, r2, r3, r⟩
    · obtain ⟨bm, ob, b1, b2, b3, b4, b5, b6⟩ := hbm
      refine ⟨bm, ob, b1, b2, fun z => ?_, fun z => ?_, hidT_get b3 (other b3 (fun _ _ z => by rw [b6] at z; cases z) (fun z => by rw [b6] at z; cases z)), b4, b5, b6⟩
      · obtain ⟨o, es, ep, e, hd, _⟩ := hg
        rw [z, e] at b3
        cases b3
        rw [hd] at b6
        cases b6
      · rw [z, hT] at b3
        cases b3
        cases b6
    · obtain ⟨o, es, ep, e, hd, _⟩ := hg
      rw [z, hT] at e
      cases e
      cases hd
  have e0 : Env0 P w K mg (hidT s.heap H) callerA [] s H := { frames := rfl, mod := hmod, bs := fun b o e => of_hidT e, bsz := Nat.le_of_eq (hidT_size _ _), funs := trivial, frf := fun b z => (nomatch z), hok := hok, bare := .of_eq hgen }
  refine codeAny_mono (F _ kin (nsH hg) tb s H _ (.ref a) _ _ hr e0 (hbind s _) rfl (hsp H hsq HT)) fun r s' h => ?_
  cases r with
  | error e => exact False.elim h
  | ok fl =>
    cases fl with
    | ret u =>
      obtain ⟨v, H', os, bare, un, hok', r', q⟩ := h
      obtain rfl : v = .bl true := q
      cases (show u = Value.bool true from r')
      obtain ⟨more, hmore⟩ := un.tbls TP #[] HT
      have tab' : s'.heap.get? TP = some { cls := .none, data := .fields (#[] ++ more) } := hok' TP _ hmore
      have keep : ∀ b o, b ≠ TP → s.heap.get? b = some o → s'.heap.get? b = some o := fun b o n e => by
        cases q : H b with
        | none => exact un.keep b o e q (fun z => (nomatch z)) (fun z => (nomatch z))
        | some ho =>
          have q0 := q
          rw [Hn n] at q0
          obtain ⟨eb, _, eu⟩ := scriptH_some q0
          rw [eu] at q
          have z := (hok' b _ (un.frzs b _ _ q)).1
          rw [eb, ha] at e
          cases e
          exact z
      refine ⟨rfl, ⟨fun b o e => ?_, fun b o e => ?_⟩, os, bare⟩
      · by_cases n : b = TP
        · rw [n] at e ⊢
          rw [hT] at e
          cases e
          exact .inr (.inl ⟨(C.tab hT).isCodeTable, rfl, #[], more, rfl, tab'⟩)
        · exact .inl (keep b o n e)
      · by_cases n : b = TP
        · rw [n]
          exact ⟨_, tab'⟩
        · exact ⟨o, keep b o n e⟩
    | _ => exact False.elim h
/-- what the head knows of a def's code object and its table -/
def TabOf (K : PySem.W.Frag) (mg : Str → Option Value) (x : Str) (h : Heap) (c TP : Addr) : Prop :=
  (∀ (f : Addr) (o : Obj) (fd : FuncData), mg x = some (.ref f) → K.lookup f = some o → o.data = .func fd → fd.code = .ref c) ∧ h.get? TP = some { cls := .none, data := .fields #[] } ∧ PySem.W.CodeHd h c TP
open PySem.W in
theorem hereT_walk {l : PySem.W.OpenLaw} {n k : Nat} {q : Program} {loose : List Str} {XP : (Str → Option Value) → Heap → Prop} {YP : World → Heap → Prop} {d : DefRec} {K : Params → PySem.W.Frag} {sp : World → Addr → Sp} {x y : Str}
    (hn : l.most = some n) (hn2 : n ≤ sizeLine) (hdf : d.params.defaults = []) (hr : Room k callerA) (hrec : ((recsOf q).any fun e => e.name == y) = true) (hY : ∀ (w : World) (h : Heap), YP w h → (K w.params).In h)
    (F : ∀ (w : World) (mg : Str → Option Value) (fa : Addr) (h : Heap), (K w.params).In h → h.Ns mainGlobals mg → mg d.name = some (.ref fa) → ∀ c TP, TabOf (K w.params) mg y h c TP → (K w.params).lookup TP = none ∧
      ∃ fd : FuncData, (∀ (s : Shared) (u : Value), BindsTo s fd ⟨[u], []⟩ [(x, u)]) ∧ ∀ base : Heap, (K w.params).In base → base.Ns mainGlobals mg → TabB base mg c TP → Here l.prog w (K w.params) mg base k fa fd x (sp w TP))
    (hsp : ∀ (w : World) (TP : Addr) (H : Hp) (a : Addr) (ns : List Int), ns.length ≤ n → SqL (K w.params) H a (ns.map V.int) → H TP = some (.tbl #[]) → sp w TP [.ref a] H (fun v _ => v = .bl true) fun _ _ _ => False) :
    PySem.W.WalkO q loose XP YP l.row.toRowW d [] (fun f vs => PySem.call f vs) := by
  refine Att.attach_callB hn hdf fun w s₀ s₁ mg mb fa o pm cd doc a vs ns G Y ho hd hcd hmg hobj hints hlen hbits hg => ?_
  have KX := hY w _ Y
  obtain ⟨dL, hm, hnm⟩ := List.any_eq_true.mp hrec
  obtain rfl : dL.name = y := beq_iff_eq.mp hnm
  obtain ⟨f', o', fd', c', P', h1, h2, h3, h4, h5, h6⟩ := G.T.tab dL hm
  have tab : TabOf (K w.params) mg dL.name s₁.heap c' P' := ⟨fun f o2 fd2 z1 z2 z3 => by
    rw [h1] at z1
    cases z1
    have z4 := KX _ _ z2
    rw [h2] at z4
    cases z4
    rw [h3] at z3
    cases z3
    exact h4, h6.2, .of h5 h6⟩
  obtain ⟨nT, fd, hb, hF⟩ := F w mg fa _ KX G.T.g hmg c' P' tab
  exact hereT_call KX G.T.g G.T.b G.T.builtins G.T.nolimit hg tab.2.1 nT tab.2.2 G.T.bmain hobj hints (Nat.le_trans hlen hn2) hr hF hb fun H hS hH => hsp w P' H a ns hlen hS hH
end SB

set_option Elab.async false
set_option linter.all false
set_option maxRecDepth 100000
namespace SB
open PySem L2 Evl GxR
theorem all_mk {l : PySem.W.OpenLaw} {w : World} {K : PySem.W.Frag} {h : Heap} {mg : Str → Option Value} {fa f0 f1 f2 f3 f4 f5 f6 f7 f8 f9 f10 f11 : Addr} (X : K.In h) (G : h.Ns mainGlobals mg) (hfa : mg "law" = some (.ref fa)) {c TP cc0 TT0 : Addr} (tab : TabOf K mg "first_circle" h c TP)
    {od0 an0 od1 an1 od2 an2 od3 an3 od4 an4 od5 an5 od6 an6 od7 an7 od8 an8 od9 an9 od10 an10 od11 an11 : Option Addr} {sl0 sl1 sl2 sl3 sl4 sl5 sl6 sl7 sl8 sl9 sl10 sl11 : Array (Option Value)} {oc0 kV0 dc0 pm0 cd0 ct0 oc1 kV1 dc1 pm1 cd1 ct1 oc2 kV2 dc2 pm2 cd2 ct2 oc3 kV3 dc3 pm3 cd3 ct3 oc4 kV4 dc4 pm4 cd4 ct4 oc5 kV5 dc5 pm5 cd5 ct5 oc6 kV6 dc6 pm6 cd6 ct6 oc7 kV7 dc7 pm7 cd7 ct7 oc8 kV8 dc8 pm8 cd8 ct8 oc9 kV9 dc9 pm9 cd9 ct9 oc10 kV10 dc10 pm10 cd10 ct10 oc11 kV11 dc11 pm11 cd11 ct11 : Value}
    (a0 : PySem.W.nsIn K mainGlobals "first_circle" = some (some (.ref f0))) (l0 : K.lookup f0 = some ⟨oc0, od0, .func (PySem.W.fnOf "first_circle" "first_circle" (defArgs s_first_circle) (defBody s_first_circle) (defScope s_first_circle) .none kV0 dc0 pm0 an0 cd0 ct0), sl0⟩) (c0 : PySem.W.codeIn K cd0 "first_circle" = true) (k0 : PySem.W.keepIn K (.ref f0) = true)
    (a1 : PySem.W.nsIn K mainGlobals "goals_of" = some (some (.ref f1))) (l1 : K.lookup f1 = some ⟨oc1, od1, .func (PySem.W.fnOf "goals_of" "goals_of" (defArgs s_goals_of) (defBody s_goals_of) (defScope s_goals_of) .none kV1 dc1 pm1 an1 cd1 ct1), sl1⟩) (c1 : PySem.W.codeIn K cd1 "goals_of" = true) (k1 : PySem.W.keepIn K (.ref f1) = true)
    (a2 : PySem.W.nsIn K mainGlobals "comers_of" = some (some (.ref f2))) (l2 : K.lookup f2 = some ⟨oc2, od2, .func (PySem.W.fnOf "comers_of" "comers_of" (defArgs s_comers_of) (defBody s_comers_of) (defScope s_comers_of) .none kV2 dc2 pm2 an2 cd2 ct2), sl2⟩) (c2 : PySem.W.codeIn K cd2 "comers_of" = true) (k2 : PySem.W.keepIn K (.ref f2) = true)
    (a3 : PySem.W.nsIn K mainGlobals "steps_to" = some (some (.ref f3))) (l3 : K.lookup f3 = some ⟨oc3, od3, .func (PySem.W.fnOf "steps_to" "steps_to" (defArgs s_steps_to) (defBody s_steps_to) (defScope s_steps_to) .none kV3 dc3 pm3 an3 cd3 ct3), sl3⟩) (c3 : PySem.W.codeIn K cd3 "steps_to" = true) (k3 : PySem.W.keepIn K (.ref f3) = true)
    (a4 : PySem.W.nsIn K mainGlobals "shortest_circle" = some (some (.ref f4))) (l4 : K.lookup f4 = some ⟨oc4, od4, .func (PySem.W.fnOf "shortest_circle" "shortest_circle" (defArgs s_shortest_circle) (defBody s_shortest_circle) (defScope s_shortest_circle) .none kV4 dc4 pm4 an4 cd4 ct4), sl4⟩) (c4 : PySem.W.codeIn K cd4 "shortest_circle" = true) (k4 : PySem.W.keepIn K (.ref f4) = true)
    (a5 : PySem.W.nsIn K mainGlobals "_law_cell" = some (some (.ref f5))) (l5 : K.lookup f5 = some ⟨oc5, od5, .func (PySem.W.fnOf "_law_cell" "_law_cell" (defArgs s__law_cell) (defBody s__law_cell) (defScope s__law_cell) .none kV5 dc5 pm5 an5 cd5 ct5), sl5⟩) (c5 : PySem.W.codeIn K cd5 "_law_cell" = true) (k5 : PySem.W.keepIn K (.ref f5) = true)
    (a6 : PySem.W.nsIn K mainGlobals "_law_digits" = some (some (.ref f6))) (l6 : K.lookup f6 = some ⟨oc6, od6, .func (PySem.W.fnOf "_law_digits" "_law_digits" (defArgs s__law_digits) (defBody s__law_digits) (defScope s__law_digits) .none kV6 dc6 pm6 an6 cd6 ct6), sl6⟩) (c6 : PySem.W.codeIn K cd6 "_law_digits" = true) (k6 : PySem.W.keepIn K (.ref f6) = true)
    (a7 : PySem.W.nsIn K mainGlobals "_law_wait" = some (some (.ref f7))) (l7 : K.lookup f7 = some ⟨oc7, od7, .func (PySem.W.fnOf "_law_wait" "_law_wait" (defArgs s__law_wait) (defBody s__law_wait) (defScope s__law_wait) .none kV7 dc7 pm7 an7 cd7 ct7), sl7⟩) (c7 : PySem.W.codeIn K cd7 "_law_wait" = true) (k7 : PySem.W.keepIn K (.ref f7) = true)
    (a8 : PySem.W.nsIn K mainGlobals "_law_next" = some (some (.ref f8))) (l8 : K.lookup f8 = some ⟨oc8, od8, .func (PySem.W.fnOf "_law_next" "_law_next" (defArgs s__law_next) (defBody s__law_next) (defScope s__law_next) .none kV8 dc8 pm8 an8 cd8 ct8), sl8⟩) (c8 : PySem.W.codeIn K cd8 "_law_next" = true) (k8 : PySem.W.keepIn K (.ref f8) = true)
    (a9 : PySem.W.nsIn K mainGlobals "_law_ways" = some (some (.ref f9))) (l9 : K.lookup f9 = some ⟨oc9, od9, .func (PySem.W.fnOf "_law_ways" "_law_ways" (defArgs s__law_ways) (defBody s__law_ways) (defScope s__law_ways) .none kV9 dc9 pm9 an9 cd9 ct9), sl9⟩) (c9 : PySem.W.codeIn K cd9 "_law_ways" = true) (k9 : PySem.W.keepIn K (.ref f9) = true)
    (a10 : PySem.W.nsIn K mainGlobals "_law_circle" = some (some (.ref f10))) (l10 : K.lookup f10 = some ⟨oc10, od10, .func (PySem.W.fnOf "_law_circle" "_law_circle" (defArgs s__law_circle) (defBody s__law_circle) (defScope s__law_circle) .none kV10 dc10 pm10 an10 cd10 ct10), sl10⟩) (c10 : PySem.W.codeIn K cd10 "_law_circle" = true) (k10 : PySem.W.keepIn K (.ref f10) = true)
    (a11 : PySem.W.nsIn K mainGlobals "law" = some (some (.ref f11))) (l11 : K.lookup f11 = some ⟨oc11, od11, .func (PySem.W.fnOf "law" "law" (defArgs s_law) (defBody s_law) (defScope s_law) .none kV11 dc11 pm11 an11 cd11 ct11), sl11⟩) (c11 : PySem.W.codeIn K cd11 "law" = true) (k11 : PySem.W.keepIn K (.ref f11) = true)
    (z_len : PySem.W.nsIn K mainGlobals "len" = some none)
    (z_int : PySem.W.nsIn K mainGlobals "int" = some none)
    (z_abs : PySem.W.nsIn K mainGlobals "abs" = some none)
    (z_min : PySem.W.nsIn K mainGlobals "min" = some none)
    (z_any : PySem.W.nsIn K mainGlobals "any" = some none)
    (z_sorted : PySem.W.nsIn K mainGlobals "sorted" = some none)
    (z_list : PySem.W.nsIn K mainGlobals "list" = some none)
    (z_isinstance : PySem.W.nsIn K mainGlobals "isinstance" = some none)
    (z_range : PySem.W.nsIn K mainGlobals "range" = some none)
    (z_repr : PySem.W.nsIn K mainGlobals "repr" = some none)
    {te : Value} {td : Option Addr} {tv : Array Value} {tsl : Array (Option Value)} (tc : cd0 = .ref cc0) (tl : K.lookup cc0 = some ⟨te, td, .fields tv, tsl⟩) (tt : tv[11]? = some (.ref TT0)) (tn : K.lookup TT0 = none) :
    K.lookup TP = none ∧ ∃ fd : FuncData, (∀ (s : Shared) (v : Value), BindsTo s fd ⟨[v], []⟩ [("script", v)]) ∧ ∀ base : Heap, K.In base → base.Ns mainGlobals mg → TabB base mg c TP → Here l.prog w K mg base 3 fa fd "script" (spLaw K TP) := by
  have e := hfa.symm.trans (PySem.W.mg_of X G a11)
  cases e
  have F0 := fun_mk (st := s_first_circle) l0 c0 k0
  have b0 := F0.binds (ps := ["waits"]) fun _ _ _ _ _ _ us hl => match us, hl with | [_], _ => rfl
  have F1 := fun_mk (st := s_goals_of) l1 c1 k1
  have b1 := F1.binds (ps := ["reason"]) fun _ _ _ _ _ _ us hl => match us, hl with | [_], _ => rfl
  have F2 := fun_mk (st := s_comers_of) l2 c2 k2
  have b2 := F2.binds (ps := ["goals"]) fun _ _ _ _ _ _ us hl => match us, hl with | [_], _ => rfl
  have F3 := fun_mk (st := s_steps_to) l3 c3 k3
  have b3 := F3.binds (ps := ["task", "comers"]) fun _ _ _ _ _ _ us hl => match us, hl with | [_, _], _ => rfl
  have F4 := fun_mk (st := s_shortest_circle) l4 c4 k4
  have b4 := F4.binds (ps := ["task", "steps", "goals"]) fun _ _ _ _ _ _ us hl => match us, hl with | [_, _, _], _ => rfl
  have F5 := fun_mk (st := s__law_cell) l5 c5 k5
  have b5 := F5.binds (ps := ["script", "k"]) fun _ _ _ _ _ _ us hl => match us, hl with | [_, _], _ => rfl
  have F6 := fun_mk (st := s__law_digits) l6 c6 k6
  have b6 := F6.binds (ps := ["cell", "base", "most"]) fun _ _ _ _ _ _ us hl => match us, hl with | [_, _, _], _ => rfl
  have F7 := fun_mk (st := s__law_wait) l7 c7 k7
  have b7 := F7.binds (ps := ["draw", "tasks"]) fun _ _ _ _ _ _ us hl => match us, hl with | [_, _], _ => rfl
  have F8 := fun_mk (st := s__law_next) l8 c8 k8
  have b8 := F8.binds (ps := ["reason"]) fun _ _ _ _ _ _ us hl => match us, hl with | [_], _ => rfl
  have F9 := fun_mk (st := s__law_ways) l9 c9 k9
  have b9 := F9.binds (ps := ["edges", "first", "length"]) fun _ _ _ _ _ _ us hl => match us, hl with | [_, _, _], _ => rfl
  have F10 := fun_mk (st := s__law_circle) l10 c10 k10
  have b10 := F10.binds (ps := ["waits"]) fun _ _ _ _ _ _ us hl => match us, hl with | [_], _ => rfl
  have F11 := fun_mk (st := s_law) l11 c11 k11
  have T : Txt K mg := ⟨PySem.W.mg_none_of X G z_len, PySem.W.mg_none_of X G z_int, PySem.W.mg_none_of X G z_abs, PySem.W.mg_none_of X G z_min, PySem.W.mg_none_of X G z_any, PySem.W.mg_none_of X G z_sorted, PySem.W.mg_none_of X G z_list, PySem.W.mg_none_of X G z_isinstance, PySem.W.mg_none_of X G z_range, PySem.W.mg_none_of X G z_repr⟩
  have hcode : (PySem.W.fnOf "first_circle" "first_circle" (defArgs s_first_circle) (defBody s_first_circle) (defScope s_first_circle) .none kV0 dc0 pm0 an0 cd0 ct0).code = .ref c := tab.1 f0 _ _ (PySem.W.mg_of X G a0) l0 rfl
  have hcc : cc0 = c := by
    have z : cd0 = .ref c := hcode
    rw [tc] at z
    exact Value.ref.inj z
  subst hcc
  have hTP : TP = TT0 := by
    obtain ⟨o, us, _, _, _, _, _, _, _, g1, _, g2, g3, _⟩ := tab.2.2
    rw [X _ _ tl] at g1
    cases g1
    cases g2
    rw [tt] at g3
    exact (Value.ref.inj (Option.some.inj g3)).symm
  subst hTP
  refine ⟨tn, PySem.W.fnOf "law" "law" (defArgs s_law) (defBody s_law) (defScope s_law) .none kV11 dc11 pm11 an11 cd11 ct11, fun s v => .of_eq rfl, fun base _ _ TB => ?_⟩
  have H_goals : Fn l.prog w K mg base 1 "goals_of" ["reason"] (spNext K) := ⟨⟨f1, _, PySem.W.mg_of X G a1, k1, b1, ok_goals_of F1 T⟩⟩
  have H_comers : Fn l.prog w K mg base 1 "comers_of" ["goals"] (spComers K) := ⟨⟨f2, _, PySem.W.mg_of X G a2, k2, b2, ok_comers_of F2 T⟩⟩
  have H_steps : Fn l.prog w K mg base 1 "steps_to" ["task", "comers"] (spSteps K) := ⟨⟨f3, _, PySem.W.mg_of X G a3, k3, b3, ok_steps_to F3 T⟩⟩
  have H_short : Fn l.prog w K mg base 1 "shortest_circle" ["task", "steps", "goals"] (spShort K) := ⟨⟨f4, _, PySem.W.mg_of X G a4, k4, b4, ok_shortest_circle F4 T⟩⟩
  have H_first : Fn l.prog w K mg base 2 "first_circle" ["waits"] (spFirst K TP) := ⟨⟨f0, _, PySem.W.mg_of X G a0, k0, b0, ok_first_circle F0 hcode TB T H_goals H_comers H_steps H_short⟩⟩
  have H_cell : Fn l.prog w K mg base 1 "_law_cell" ["script", "k"] (spCell K) := ⟨⟨f5, _, PySem.W.mg_of X G a5, k5, b5, ok__law_cell F5 T⟩⟩
  have H_digits : Fn l.prog w K mg base 1 "_law_digits" ["cell", "base", "most"] (spDigits K) := ⟨⟨f6, _, PySem.W.mg_of X G a6, k6, b6, ok__law_digits F6 T⟩⟩
  have H_wait : Fn l.prog w K mg base 1 "_law_wait" ["draw", "tasks"] (spWait K) := ⟨⟨f7, _, PySem.W.mg_of X G a7, k7, b7, ok__law_wait F7 T⟩⟩
  have H_next : Fn l.prog w K mg base 1 "_law_next" ["reason"] (spNext K) := ⟨⟨f8, _, PySem.W.mg_of X G a8, k8, b8, ok__law_next F8 T⟩⟩
  have H_ways : Fn l.prog w K mg base 1 "_law_ways" ["edges", "first", "length"] (spWays K) := ⟨⟨f9, _, PySem.W.mg_of X G a9, k9, b9, ok__law_ways F9 T⟩⟩
  have H_circle : Fn l.prog w K mg base 2 "_law_circle" ["waits"] (spLC K) := ⟨⟨f10, _, PySem.W.mg_of X G a10, k10, b10, ok__law_circle F10 T H_next H_ways⟩⟩
  exact ok_law F11 T H_cell H_digits H_wait H_first H_circle
theorem walk {l : PySem.W.OpenLaw} {q : Program} {loose : List Str} {XP : (Str → Option Value) → Heap → Prop} {YP : World → Heap → Prop} {d : DefRec} {K : Params → PySem.W.Frag} (hn : l.most = some 63) (hdf : d.params.defaults = []) (hrec : ((PyProof.Rows.recsOf q).any fun e => e.name == ("first_circle" : Str)) = true)
    (hY : ∀ (w : World) (h : Heap), YP w h → (K w.params).In h)
    (F : ∀ (w : World) (mg : Str → Option Value) (fa : Addr) (h : Heap), (K w.params).In h → h.Ns mainGlobals mg → mg d.name = some (.ref fa) → ∀ c TP, TabOf (K w.params) mg "first_circle" h c TP → (K w.params).lookup TP = none ∧
      ∃ fd : FuncData, (∀ (s : Shared) (u : Value), BindsTo s fd ⟨[u], []⟩ [("script", u)]) ∧ ∀ base : Heap, (K w.params).In base → base.Ns mainGlobals mg → TabB base mg c TP → Here l.prog w (K w.params) mg base 3 fa fd "script" (spLaw (K w.params) TP)) :
    PySem.W.WalkO q loose XP YP l.row.toRowW d [] (fun f vs => PySem.call f vs) :=
  hereT_walk (n := 63) (k := 3) (x := "script") (y := "first_circle") (sp := fun w TP => spLaw (K w.params) TP) hn (by decide) hdf ⟨rfl, by decide, by decide⟩ hrec hY F fun _ _ _ a ns hl hS hT => ⟨a, ns, rfl, hS, hl, ⟨#[], hT, trivial⟩, fun _ => rfl⟩
end SB
open PySem PySem.W PyProof.Rows
set_option maxRecDepth 100000 in
set_option maxHeartbeats 0 in
theorem PySem.Challenge.cw_seedbed_k65_circles_of_waits_holds : PySem.Challenge.rw_seedbed_k65_circles_of_waits.Holds := by
  w_on; o_law; k_head; (case hw => w_witness2)
  k_fill
  refine SB.walk (l := PySem.Challenge.rw_seedbed_k65_circles_of_waits) rfl rfl (by decide +kernel) (fun w h Y => PySem.W.kIn_of Y) ?F
  case F =>
    intro w mg fa h KX G hmg c TP tab
    refine' SB.all_mk KX G hmg tab ?a0 ?l0 ?c0 ?k0 ?a1 ?l1 ?c1 ?k1 ?a2 ?l2 ?c2 ?k2 ?a3 ?l3 ?c3 ?k3 ?a4 ?l4 ?c4 ?k4 ?a5 ?l5 ?c5 ?k5 ?a6 ?l6 ?c6 ?k6 ?a7 ?l7 ?c7 ?k7 ?a8 ?l8 ?c8 ?k8 ?a9 ?l9 ?c9 ?k9 ?a10 ?l10 ?c10 ?k10 ?a11 ?l11 ?c11 ?k11 ?z_len ?z_int ?z_abs ?z_min ?z_any ?z_sorted ?z_list ?z_isinstance ?z_range ?z_repr ?tc ?tl ?tt ?tn
    (case a0 => k_is); (case l0 => k_is); (case c0 => k_is); (case k0 => k_is)
    (case a1 => k_is); (case l1 => k_is); (case c1 => k_is); (case k1 => k_is)
    (case a2 => k_is); (case l2 => k_is); (case c2 => k_is); (case k2 => k_is)
    (case a3 => k_is); (case l3 => k_is); (case c3 => k_is); (case k3 => k_is)
    (case a4 => k_is); (case l4 => k_is); (case c4 => k_is); (case k4 => k_is)
    (case a5 => k_is); (case l5 => k_is); (case c5 => k_is); (case k5 => k_is)
    (case a6 => k_is); (case l6 => k_is); (case c6 => k_is); (case k6 => k_is)
    (case a7 => k_is); (case l7 => k_is); (case c7 => k_is); (case k7 => k_is)
    (case a8 => k_is); (case l8 => k_is); (case c8 => k_is); (case k8 => k_is)
    (case a9 => k_is); (case l9 => k_is); (case c9 => k_is); (case k9 => k_is)
    (case a10 => k_is); (case l10 => k_is); (case c10 => k_is); (case k10 => k_is)
    (case a11 => k_is); (case l11 => k_is); (case c11 => k_is); (case k11 => k_is)
    (case z_len => k_is)
    (case z_int => k_is)
    (case z_abs => k_is)
    (case z_min => k_is)
    (case z_any => k_is)
    (case z_sorted => k_is)
    (case z_list => k_is)
    (case z_isinstance => k_is)
    (case z_range => k_is)
    (case z_repr => k_is)
    (case tc => rfl)
    (case tl => k_is)
    (case tt => rfl)
    (case tn => first | rfl | (trace_state; k_is))

