import PyProof.Rows.All
import Wide.All
import OpenK.AllK
import Wide.FinOn
import PyProof.RulesMatch
import HandS.ForMost
import HandS.Wide
import HandS.WideBits
import HandS.IsInst
import HandS.DictComp
import HandS.NoneIn
import HandS.More
import HandS.Codes
import HandS.Evl
import PySem.Challenge.RW_seedbed_k01_values_and_fitted_numbers
set_option Elab.async false
set_option linter.all false
set_option maxRecDepth 100000
namespace SB
open PySem L2

/-! ### list + list, either of them the script -/
def rCatL (K : PySem.W.Frag) : R2 := fun x y H Q => ∃ l b xs zs, x = .ref l ∧ y = .ref b ∧ SqL K H l xs ∧ SqL K H b zs ∧ xs.length + zs.length ≤ sizeLine ∧ ∀ p, H p = none → Q (.ref p) (upd H p (.lst (xs ++ zs)))
theorem op_catL {X : Cx} : OpR X (binaryOp .Add) (rCatL X.K) := by
  intro pins s σ H x y v u Q I rx ry h
  obtain ⟨l, b, xs, zs, rfl, rfl, hH, hB, hz, q⟩ := h
  cases rx
  cases ry
  obtain ⟨its, r, p1, hl⟩ := I.list hH
  obtain ⟨its2, r2, p2, hl2⟩ := I.list hB
  have el := r.length
  have el2 := r2.length
  obtain ⟨⟨cls, dd, data, sl⟩, ho, hc, n, hd⟩ := p1.isList
  obtain ⟨⟨cls2, dd2, data2, sl2⟩, ho2, hc2, n2, hd2⟩ := p2.isList
  simp only at hc hd hc2 hd2
  subst hc hd hc2 hd2
  have ea : its.toArray ++ its2.toArray = (its ++ its2).toArray := by simp
  refine concat_meets ⟨_, ho, rfl⟩ ⟨_, ho2, rfl⟩ noFill_list_add seq_list_add PySem.F.slot_list_add PySem.F.entry_list_add (PySem.F.args_list_add_2 _ _) (PyProof.Rows.list_addW l b its.toArray its2.toArray n n2 dd dd2 sl sl2 (by simp only [List.size_toArray]; omega)) ⟨ho, ho2, ?_⟩
  rw [ea]
  exact ⟨.ref _, _, I.lnew (t' := s.toks) (r.append r2) (by rw [List.length_append]; omega), rfl, q _ I.fresh⟩

/-! ### match: the subject by values -/
structure PCs (X : Cx) (cs : List MatchCase) (t : V → TS) : Prop where
  run : ∀ (first : Bool) (pins : List (Addr × Obj)) (s : Shared) (σ : L2.St) (H : Hp) (v : V) (u : Value) (D : Ends), Inv X pins σ H s → RelV v u → t v D σ H →
    wpAny (model X.prog X.w) X.A (matchCases cs X.env u first) (SP X pins D) X.xe s
section
variable {X : Cx}
theorem pc_nil : PCs X [] (fun _ D σ H => D.nx σ H) := ⟨fun _ _ _ σ H _ _ _ I _ h => wpAny_matchCases_nil ⟨σ, H, I, h⟩⟩
def tVal (y : Str) (tb : TS) (tr : V → TS) : V → TS := fun v D σ H => scal v (.str y) = true ∧ if decide (v = .str y) = true then tb D σ H else tr v D σ H
theorem pc_str {y : Str} {j : Nat} {p p2 : Pos} {body : List Stmt} {rest : List MatchCase} {tb : TS} {tr : V → TS} (hb : PSs X body tb) (hr : PCs X rest tr) :
    PCs X (⟨.MatchValue (.Constant (.str y) j p) p2, none, body⟩ :: rest) (tVal y tb tr) := by
  refine ⟨fun first pins s σ H v u D I rv h => ?_⟩
  obtain ⟨hs, h⟩ := h
  refine wpAny_matchCases_cons (wpAny_matchPattern_Value (thn ((pe_str (X := X) (x := y) (j := j) (pos := p)).run pins s σ H (fun z H' => z = .str y ∧ H' = H) I ⟨rfl, rfl⟩) fun w' s1 ⟨z, H1, I1, rz, ez, eH⟩ => ?_))
  subst ez
  subst eH
  refine thn (op_eq (X := X) pins s1 σ H1 v (.str y) u w' (fun z H' => z = .bl (decide (v = .str y)) ∧ H' = H1) I1 rv rz ⟨hs, rfl, rfl⟩) fun c s2 ⟨z, H2, I2, rc, ez, eH⟩ => ?_
  subst ez
  subst eH
  cases rc
  refine wpAny_truthy_bool ?_
  cases hd : decide (v = V.str y) with
  | true =>
    rw [hd] at h
    exact wpAny_assignInOrder_none (hb.run pins s2 σ H2 D I2 h)
  | false =>
    rw [hd] at h
    exact hr.run false pins s2 σ H2 v u D I2 rv h
def tMatch (te : TE) (tc : V → TS) : TS := fun D σ H => te σ H fun v H1 => tc v D σ H1
theorem ps_match {e : Expr} {cs : List MatchCase} {pos : Pos} {te : TE} {tc : V → TS} (he : PE X e te) (hc : PCs X cs tc) : PS X (.Match e cs pos) (tMatch te tc) :=
  ⟨fun pins s σ H D I h => wpAny_Match (thn (he.run pins s σ H _ I h) fun u s1 ⟨v, H1, I1, rv, q⟩ => hc.run true pins s1 σ H1 v u D I1 rv q)⟩
end

/-! ### a def of the text, called -/
structure Fn (P : Program) (w : World) (K : PySem.W.Frag) (mg : Str → Option Value) (base : Heap) (k : Nat) (x : Str) (ps : List Str) (sp : Sp) : Prop where
  ex : ∃ f fd, mg x = some (.ref f) ∧ PySem.W.keepIn K (.ref f) = true ∧ Binds K fd ps [] ∧ FnOk P w K mg base CX0 k f fd ps sp
theorem Fn.mono {P : Program} {w : World} {K : PySem.W.Frag} {mg : Str → Option Value} {base : Heap} {j k : Nat} {x : Str} {ps : List Str} {sp : Sp} (F : Fn P w K mg base j x ps sp) (h : j ≤ k) : Fn P w K mg base k x ps sp := by
  obtain ⟨f, fd, m, kp, b, G⟩ := F.ex
  exact ⟨f, fd, m, kp, b, G.mono h⟩
section
variable {X : Cx} {k : Nat} {x : Str} {ps : List Str} {sp : Sp}
theorem pe_fn {e : Expr} {es : List Expr} {p pos : Pos} {t : TA} (F : Fn X.prog X.w X.K X.mg X.base k x ps sp) (hr : Room k X.A) (hg : Gl X x) (ha : PA X (e :: es) t)
    (hdb : (x == ("__debug__" : Str)) = false := by decide) (he : starEach (e :: es) X.env = (false, eval e X.env) :: starEach es X.env := by rfl) (hpl : (backTo pos (starEach es X.env)).any (·.1) = false := by rfl) :
    PE X (.Call (.Name x p) (e :: es) [] pos) (tCall sp [] E0 t) := by
  obtain ⟨f, fd, m, kp, b, G⟩ := F.ex
  exact pe_call G hr hg m kp b .nil pass0 ha hdb he hpl
theorem pe_fn0 {p pos : Pos} (F : Fn X.prog X.w X.K X.mg X.base k x ps sp) (hr : Room k X.A) (hg : Gl X x)
    (hdb : (x == ("__debug__" : Str)) = false := by decide) :
    PE X (.Call (.Name x p) [] [] pos) (tCall sp [] E0 tNil) := by
  obtain ⟨f, fd, m, kp, b, G⟩ := F.ex
  exact pe_call0 G hr hg m kp b .nil pass0 hdb
end

/-! ### what a reading evaluates to, told by a word that stays when the heap grows -/
open Evl
abbrev VH := V → Hp → Prop
def Mono (P : VH) : Prop := ∀ v H H', Ex H H' → P v H → P v H'
def isV (c : V) : VH := fun v _ => v = c
def isL (K : PySem.W.Frag) (xs : List V) : VH := fun v H => ∃ p, v = .ref p ∧ SqL K H p xs
def isT (K : PySem.W.Frag) (xs : List V) : VH := fun v H => ∃ p, v = .ref p ∧ SqT K H p xs
def isD (K : PySem.W.Frag) (d : PyData) : VH := fun v H => Dp K H v d
theorem mono_V {c : V} : Mono (isV c) := fun _ _ _ _ h => h
theorem mono_L {K : PySem.W.Frag} {xs : List V} : Mono (isL K xs) := fun _ _ _ e ⟨p, h, q⟩ => ⟨p, h, ex_l e q⟩
theorem mono_T {K : PySem.W.Frag} {xs : List V} : Mono (isT K xs) := fun _ _ _ e ⟨p, h, q⟩ => ⟨p, h, ex_t e q⟩
mutual
theorem Dp.mono {K : PySem.W.Frag} {H H' : Hp} (e : Ex H H') : ∀ {v : V} {d : PyData}, Dp K H v d → Dp K H' v d
  | _, _, .non => .non
  | _, _, .bl b => .bl b
  | _, _, .int i => .int i
  | _, _, .str x => .str x
  | _, _, .lst a b => .lst (ex_l e a) (DpAll.mono e b)
  | _, _, .tup a b => .tup (ex_t e a) (DpAll.mono e b)
theorem DpAll.mono {K : PySem.W.Frag} {H H' : Hp} (e : Ex H H') : ∀ {vs : List V} {ds : List PyData}, DpAll K H vs ds → DpAll K H' vs ds
  | _, _, .nil => .nil
  | _, _, .cons a b => .cons (Dp.mono e a) (DpAll.mono e b)
end
theorem mono_D {K : PySem.W.Frag} {d : PyData} : Mono (isD K d) := fun _ _ _ e h => Dp.mono e h
def EvP (te : TE) (σ : L2.St) (H : Hp) (P : VH) : Prop := ∀ H1, Ex H H1 → ∀ Q : VK, (∀ v H2, Ex H1 H2 → P v H2 → Q v H2) → te σ H1 Q
def EvAP (ta : TA) (σ : L2.St) (H : Hp) (P : List V → Hp → Prop) : Prop := ∀ H1, Ex H H1 → ∀ Q : List V → Hp → Prop, (∀ vs H2, Ex H1 H2 → P vs H2 → Q vs H2) → ta σ H1 Q
def SpP (sp : Sp) (A : List V → Hp → Prop) (H : Hp) (P : VH) : Prop := ∀ vs H1, Ex H H1 → A vs H1 → ∀ Q : VK, (∀ v H2, Ex H1 H2 → P v H2 → Q v H2) → ∀ E : XK, sp vs H1 Q E
section
variable {K : PySem.W.Frag} {σ : L2.St} {H H' : Hp} {te ta tb : TE} {P P1 : VH} {v : V} {xs : List V} {D : Ends} {tz : TS}
theorem EvP.mono (e : Ex H H') (h : EvP te σ H P) : EvP te σ H' P := fun H1 a Q q => h H1 (e.trans a) Q q
theorem Ev.p (h : Ev te σ H v) : EvP te σ H (isV v) := fun H1 e Q q => h H1 e Q fun H2 e2 => q v H2 e2 rfl
theorem EvP.val (h : EvP te σ H (isV v)) : Ev te σ H v := fun H1 e Q q => h H1 e Q fun w H2 e2 (z : w = v) => by rw [z]; exact q H2 e2
theorem EvL.p (h : EvL te σ H xs) : EvP te σ H (isL K xs) := fun H1 e Q q => h H1 e Q fun p H2 _ e2 hp => q _ H2 e2 ⟨p, rfl, sq_of hp⟩
theorem EvU.p (h : EvU te σ H xs) : EvP te σ H (isT K xs) := fun H1 e Q q => h H1 e Q fun p H2 _ e2 hp => q _ H2 e2 ⟨p, rfl, st_of hp⟩
theorem EvP.imp (h : EvP te σ H P) (i : ∀ v H2, Ex H H2 → P v H2 → P1 v H2) : EvP te σ H P1 := fun H1 e Q q => h H1 e Q fun w H2 e2 z => q w H2 e2 (i w H2 (e.trans e2) z)
theorem ep_var {i : Nat} (h : σ[i]? = some (some v)) (m : Mono P) (hp : P v H) : EvP (tVar i) σ H P := fun H1 e Q q => ⟨v, h, q v H1 (Ex.refl H1) (m _ _ _ e hp)⟩
theorem ap_nil : EvAP tNil σ H (fun vs _ => vs = []) := fun H1 _ _ q => q _ H1 (Ex.refl H1) rfl
def aCons (P : VH) (A : List V → Hp → Prop) : List V → Hp → Prop := fun vs H => ∃ v r, vs = v :: r ∧ P v H ∧ A r H
theorem ap_cons {tr : TA} {A : List V → Hp → Prop} (m : Mono P) (h : EvP te σ H P) (hr : EvAP tr σ H A) : EvAP (tCons te tr) σ H (aCons P A) := fun H1 e _ q =>
  h H1 e _ fun v H2 e2 p => hr H2 (e.trans e2) _ fun r H3 e3 z => q _ H3 (e2.trans e3) ⟨v, r, rfl, m _ _ _ e3 p, z⟩
theorem ep_call {sp : Sp} {E : XK} {t : TA} {A : List V → Hp → Prop} (h : EvAP t σ H A) (hs : SpP sp A H P) : EvP (tCall sp [] E t) σ H P := fun H1 e Q q =>
  h H1 e _ fun vs H2 e2 z => by
    rw [List.append_nil]
    exact hs vs H2 (e.trans e2) z Q (fun v H3 e3 p => q v H3 (e2.trans e3) p) E
theorem ep_ret (h : EvP te σ H P) (k : ∀ v H1, Ex H H1 → P v H1 → D.rt v H1) : tRet te D σ H := h H (Ex.refl H) _ k
theorem qp_asg {i : Nat} (h : EvP te σ H P) (k : ∀ v H1, Ex H H1 → P v H1 → tz D (σ.set i (some v)) H1) : tSeq (tAsg te (gName i)) tz D σ H := h H (Ex.refl H) _ k
theorem sp_asg {i : Nat} (h : EvP te σ H P) (k : ∀ v H1, Ex H H1 → P v H1 → D.nx (σ.set i (some v)) H1) : tAsg te (gName i) D σ H := h H (Ex.refl H) _ k
end

/-! ### readings by names, and their rules -/
def rInt1 : List V → Hp → VK → Prop := fun xs H Q => (∃ i, xs = [.int i] ∧ Q (.int i) H) ∨ ∃ k, xs = [.bl k] ∧ Q (.int (if k then 1 else 0)) H
theorem c_int {X : Cx} : CallR X (.type "int") rInt1 := call_int1
def rAbs : List V → Hp → VK → Prop := fun xs H Q => ∃ i, xs = [.int i] ∧ Q (.int (if i < 0 then -i else i)) H
theorem c_abs {X : Cx} : CallR X (.builtin "abs") rAbs := call_abs
def rStrI : List V → Hp → VK → Prop := fun xs H Q => ∃ i, xs = [.int i] ∧ i.natAbs.log2 < 1920 ∧ Q (.str (toString i)) H
theorem c_str {X : Cx} : CallR X (.type "str") rStrI := call_str_int
theorem c_len {X : Cx} : CallR X (.builtin "len") (rLenS X.K) := call_len_seq
def rAddStr : R2 := fun x y H Q => ∃ i j, x = .str i ∧ y = .str j ∧ i.length + j.length ≤ sizeLine ∧ Q (.str (i ++ j)) H
theorem o_addS {X : Cx} : OpR X (binaryOp .Add) rAddStr := op_add_str
def rAndM : R2 := fun x y H Q => ∃ (i : Int) (k : Nat), x = .int i ∧ y = .int (2 ^ k - 1) ∧ Q (.int (i % 2 ^ k)) H
theorem o_andM {X : Cx} : OpR X (binaryOp .BitAnd) rAndM := op_andM
def CPos (_ j : Int) : Prop := 0 < j
theorem o_mod {X : Cx} : OpR X (binaryOp .Mod) (rI CPos fun i j => .int (i % j)) := op_mod
section
variable {K : PySem.W.Frag} {σ : L2.St} {H : Hp} {te ta tb : TE} {P : VH} {v x y : V} {xs : List V}
theorem ev_int {i : Int} (h : Ev ta σ H (.int i)) : Ev (tCB rInt1 (tCons ta tNil)) σ H (.int i) := fun H1 e Q q => h H1 e _ fun H2 e2 => .inl ⟨i, rfl, q H2 e2⟩
theorem ev_intB {b : Bool} (h : Ev ta σ H (.bl b)) : Ev (tCB rInt1 (tCons ta tNil)) σ H (.int (if b = true then 1 else 0)) := fun H1 e Q q => h H1 e _ fun H2 e2 => .inr ⟨b, rfl, q H2 e2⟩
theorem ev_abs {i : Int} (h : Ev ta σ H (.int i)) : Ev (tCB rAbs (tCons ta tNil)) σ H (.int (if i < 0 then -i else i)) := fun H1 e Q q => h H1 e _ fun H2 e2 => ⟨i, rfl, q H2 e2⟩
theorem ev_str {i : Int} (h : Ev ta σ H (.int i)) (hz : i.natAbs.log2 < 1920) : Ev (tCB rStrI (tCons ta tNil)) σ H (.str (toString i)) := fun H1 e Q q => h H1 e _ fun H2 e2 => ⟨i, rfl, hz, q H2 e2⟩
theorem ev_lenT {p : Addr} (h : Ev ta σ H (.ref p)) (hs : SqT K H p xs) : Ev (tCB (rLenS K) (tCons ta tNil)) σ H (.int (xs.length : Int)) := fun H1 e Q q =>
  h H1 e _ fun H2 e2 => ⟨p, xs, rfl, Or.inr (ex_t (e.trans e2) hs), q H2 e2⟩
theorem rv_addS {i j : Str} (hz : i.length + j.length ≤ sizeLine) : RV rAddStr (.str i) (.str j) H (.str (i ++ j)) := fun H1 _ _ q => ⟨i, j, rfl, rfl, hz, q H1 (Ex.refl H1)⟩
theorem rv_and1 {i : Int} : RV rAndM (.int i) (.int 1) H (.int (i % 2)) := fun H1 _ _ q => ⟨i, 1, rfl, rfl, q H1 (Ex.refl H1)⟩
theorem ev_ixL {p : Addr} {i : Int} (h : Ev ta σ H (.ref p)) (hi : Ev tb σ H (.int i)) (hs : SqL K H p xs) (ha : atI xs i = some v) : Ev (tOp (rIxL K) ta tb) σ H v := ev_op h hi (rv_ixL hs ha)
theorem ev_ixT {p : Addr} {i : Int} (h : Ev ta σ H (.ref p)) (hi : Ev tb σ H (.int i)) (hs : SqT K H p xs) (ha : atI xs i = some v) : Ev (tOp (rIxT K) ta tb) σ H v := ev_op h hi (rv_ixT hs ha)
/-- an item of a list that was just made -/
theorem ev_ixN {i : Int} (h : EvL ta σ H xs) (hi : ∀ H1, Ex H H1 → Ev tb σ H1 (.int i)) (ha : atI xs i = some v) : Ev (tOp (rIxL K) ta tb) σ H v := ev_opL1 h hi fun _ _ hp _ => rv_ixL (sq_of hp) ha
end
theorem isi1 {X : Cx} : CallR X (.builtin "isinstance") (rIsi X.K) := call_isi
/-! ### rules whose reading names the written part: for a comprehension's block -/
theorem ixL_K {X : Cx} (K : PySem.W.Frag) (h : X.K = K) : IxR X (rIxL K) := by subst h; exact ix_list
theorem ixT_K {X : Cx} (K : PySem.W.Frag) (h : X.K = K) : IxR X (rIxT K) := by subst h; exact ix_tup
theorem catL_K {X : Cx} (K : PySem.W.Frag) (h : X.K = K) : OpR X (binaryOp .Add) (rCatL K) := by subst h; exact op_catL
theorem inS_K {X : Cx} (K : PySem.W.Frag) (h : X.K = K) : OpR X (compareOp .In) (rIn K false) := by subst h; exact op_in_seq
theorem nInS_K {X : Cx} (K : PySem.W.Frag) (h : X.K = K) : OpR X (compareOp .NotIn) (rIn K true) := by subst h; exact op_notIn_seq
theorem len_K {X : Cx} (K : PySem.W.Frag) (h : X.K = K) : CallR X (.builtin "len") (rLenS K) := by subst h; exact c_len
theorem isi_K {X : Cx} (K : PySem.W.Frag) (h : X.K = K) : CallR X (.builtin "isinstance") (rIsi K) := by subst h; exact call_isi
theorem slL_K {X : Cx} (K : PySem.W.Frag) (h : X.K = K) : SlR X (rSlL K) := by subst h; exact sl_list
theorem slT_K {X : Cx} (K : PySem.W.Frag) (h : X.K = K) : SlR X (rSlT K) := by subst h; exact sl_tup
end SB

set_option Elab.async false
set_option linter.all false
set_option maxRecDepth 100000
namespace SB
open PySem L2 Evl

def topS (i : Nat) : Stmt := PySem.Challenge.pw_seedbed_k01_values_and_fitted_numbers.main.body.getD i (.Pass ⟨0, 0, 0, 0⟩)
/-! ### heaps -/
theorem same_new {H : Hp} {p : Addr} (h : H p = none) (o : HO) : Same H (upd H p o) := fun b u q => by rw [upd_ne (ne_of_none q h)]; exact q
theorem same_upd {H H' : Hp} {p : Addr} (s : Same H H') (h : H p = none) (o : HO) : Same H (upd H' p o) := fun b u q => by rw [upd_ne (ne_of_none q h)]; exact s b u q
theorem bind_new {P : Hp → Prop} {H : Hp} {p : Addr} {o : HO} (h : H p = none) (q : ∀ H1, Same H H1 → H1 p = some o → P H1) : P (upd H p o) := q _ (same_new h o) upd_same
theorem asg_ev {te : TE} {g : TG} {D : Ends} {σ : L2.St} {H H1 : Hp} {v : V} (h : ∀ Q : VK, Q v H1 → te σ H Q) (k : g v σ H1 D.nx) : tAsg te g D σ H := h _ k
theorem seq_ev {te : TE} {g : TG} {u : TS} {D : Ends} {σ : L2.St} {H H1 : Hp} {v : V} (h : ∀ Q : VK, Q v H1 → te σ H Q) (k : g v σ H1 (u D)) : tSeq (tAsg te g) u D σ H := h _ k
structure Txt (K : PySem.W.Frag) (mg : Str → Option Value) : Prop where
  len_ : mg "len" = none
  int_ : mg "int" = none
  abs_ : mg "abs" = none
  str_ : mg "str" = none
  tuple_ : mg "tuple" = none
  isinstance_ : mg "isinstance" = none
  range_ : mg "range" = none
  dict_ : mg "dict" = none
  bool_ : mg "bool" = none
  g_GREATEST : ∃ t, mg "GREATEST" = some (.int 1000000000 t)
  g_NUMBERS : ∃ t, mg "NUMBERS" = some (.int 2000000001 t)
section
variable {P : Program} {w : World} {K : PySem.W.Frag} {mg : Str → Option Value} {base : Heap}

/-! ### fitted -/
def fit (n : Int) : Int := (n + 1000000000) % 2000000001 - 1000000000
def spFit : Sp := fun vs H Q _ => ∃ n, vs = [.int n] ∧ Q (.int (fit n)) H
abbrev s_fitted : Stmt := topS 3
theorem sc_fitted : FnScope ["number"] ["number"] (defScope s_fitted) := ⟨rfl, rfl, rfl, by decide +kernel, rfl, by decide +kernel, by decide +kernel⟩
theorem ok_fitted {f : Addr} {fd : FuncData} (F : Fun K "fitted" "fitted" s_fitted f fd) (T : Txt K mg) : FnOk P w K mg base CX0 1 f fd ["number"] spFit := by
  refine F.ok sc_fitted (fun vs H Q E h => ?_) (fun cdv A outer s H vs Q E hr h => ?_)
  · obtain ⟨n, rfl, _⟩ := h
    rfl
  obtain ⟨n, rfl, q⟩ := h
  obtain ⟨t1, m1⟩ := T.g_GREATEST
  obtain ⟨t2, m2⟩ := T.g_NUMBERS
  refine ⟨_, (pss_one (ps_ret (pe_op op_sub (pe_op o_mod (pe_op op_add (pv 0) (pe_glob (v := .int 1000000000) rfl m1 ⟨_, rfl⟩)) (pe_glob (v := .int 2000000001) rfl m2 ⟨_, rfl⟩)) (pe_glob (v := .int 1000000000) rfl m1 ⟨_, rfl⟩)))), ?_⟩
  exact ⟨_, rfl, _, _, rfl, rfl, _, _, rfl, rfl, (by show (0 : Int) < 2000000001; decide), _, _, rfl, rfl, q⟩

abbrev s__law_fitted : Stmt := topS 12
theorem sc__law_fitted : FnScope ["number"] ["number"] (defScope s__law_fitted) := ⟨rfl, rfl, rfl, by decide +kernel, rfl, by decide +kernel, by decide +kernel⟩
theorem ok__law_fitted {f : Addr} {fd : FuncData} (F : Fun K "_law_fitted" "_law_fitted" s__law_fitted f fd) (T : Txt K mg) : FnOk P w K mg base CX0 1 f fd ["number"] spFit := by
  refine F.ok sc__law_fitted (fun vs H Q E h => ?_) (fun cdv A outer s H vs Q E hr h => ?_)
  · obtain ⟨n, rfl, _⟩ := h
    rfl
  obtain ⟨n, rfl, q⟩ := h
  refine ⟨_, (pss_one (ps_ret (pe_op op_sub (pe_op o_mod (pe_callTy c_int (by rfl) T.int_ (by decide +kernel) (pa_cons (pe_op op_add (pv 0) pe_int) pa_nil)) pe_int) pe_int))), ?_⟩
  exact ⟨_, rfl, _, _, rfl, rfl, .inl ⟨_, rfl, _, _, rfl, rfl, (by show (0 : Int) < 2000000001; decide), _, _, rfl, rfl, q⟩⟩

/-! ### a cell of the script -/
def spCell (K : PySem.W.Frag) : Sp := fun vs H Q _ => ∃ (a : Addr) (ns : List Int) (k : Nat), vs = [.ref a, .int k] ∧ SqL K H a (ns.map V.int) ∧ Q (.int (ns.getD k 0)) H
abbrev s__law_cell : Stmt := topS 7
theorem sc__law_cell : FnScope ["script", "k"] ["script", "k"] (defScope s__law_cell) := ⟨rfl, rfl, rfl, by decide +kernel, rfl, by decide +kernel, by decide +kernel⟩
theorem ok__law_cell {f : Addr} {fd : FuncData} (F : Fun K "_law_cell" "_law_cell" s__law_cell f fd) (T : Txt K mg) : FnOk P w K mg base CX0 1 f fd ["script", "k"] (spCell K) := by
  refine F.ok sc__law_cell (fun vs H Q E h => ?_) (fun cdv A outer s H vs Q E hr h => ?_)
  · obtain ⟨a, ns, k, rfl, _⟩ := h
    rfl
  obtain ⟨a, ns, k, rfl, hS, q⟩ := h
  refine ⟨_, (pss_cons (ps_if (pt_cmpR op_lt (pv 1) (pe_callB c_len (by rfl) T.len_ (by decide +kernel) (pa_cons (pv 0) pa_nil)) (nomark _)) (pss_one (ps_ret (pe_callTy c_int (by rfl) T.int_ (by decide +kernel) (pa_cons (pe_ix ix_list (pv 0) (pv 1) (fun _ _ => rfl)) pa_nil)))) pss_nil)
      (pss_one (ps_ret pe_int))), ?_⟩
  refine ⟨_, rfl, _, rfl, a, _, rfl, .inl hS, _, _, rfl, rfl, _, rfl, ?_⟩
  refine ite2 (fun c => ?_) (fun c => ?_)
  · have c' : (k : Int) < (((ns.map V.int).length : Nat) : Int) := of_decide_eq_true c
    rw [List.length_map] at c'
    have hk : k < ns.length := by omega
    refine ⟨_, rfl, _, rfl, a, _, _, _, rfl, rfl, hS, atI_nat (by rw [List.getElem?_map, List.getElem?_eq_getElem hk] <;> rfl), .inl ⟨_, rfl, ?_⟩⟩
    rw [List.getD_eq_getElem?_getD, List.getElem?_eq_getElem hk] at q
    exact q
  · have c' : ¬ (k : Int) < (((ns.map V.int).length : Nat) : Int) := of_decide_eq_false (Bool.eq_false_iff.mpr c)
    rw [List.length_map] at c'
    have hk : ns.length ≤ k := by omega
    rw [List.getD_eq_getElem?_getD, List.getElem?_eq_none hk] at q
    exact q

/-! ### draws -/
def dstep (free : Bool) (st : Int × Int × List Int) (l : Int) : Int × Int × List Int :=
  if free && decide (1 < st.1) then (st.1 / l, st.2.1, st.2.2 ++ [st.1 % l])
  else (st.1, (((st.2.1 * 48271 + 11) % 2147483647) * 69621 + 7) % 2147483647, st.2.2 ++ [(((st.2.1 * 48271 + 11) % 2147483647) * 69621 + 7) % 2147483647 / 13 % l])
def dfree (c : Int) : Bool := decide (c < 0) || decide (10 ^ 18 ≤ c)
def dinit (c : Int) : Int × Int × List Int := (if c < 0 then -c else c, (if c < 0 then -c else c) % 2147483647, [])
def drawsF (c : Int) (ls : List Int) : List Int := (ls.foldl (dstep (dfree c)) (dinit c)).2.2
def DOk (ls : List Int) (st : Int × Int × List Int) : Prop := 0 ≤ st.1 ∧ 0 ≤ st.2.1 ∧ st.2.1 < 2147483647 ∧ Paired (fun d l => 0 ≤ d ∧ d < l) st.2.2 ls
theorem Paired.snoc {α β : Type} {R : α → β → Prop} : ∀ {xs : List α} {ys : List β} {x : α} {y : β}, Paired R xs ys → R x y → Paired R (xs ++ [x]) (ys ++ [y])
  | _, _, _, _, .nil, h => .cons h .nil
  | _, _, _, _, .cons a t, h => .cons a (Paired.snoc t h)
theorem dstep_ok {free : Bool} {ls : List Int} {st : Int × Int × List Int} {l : Int} (hl : 0 < l) (h : DOk ls st) : DOk (ls ++ [l]) (dstep free st l) := by
  obtain ⟨h1, h2, h3, h4⟩ := h
  unfold dstep
  split
  · exact ⟨Int.ediv_nonneg h1 (by omega), h2, h3, Paired.snoc h4 ⟨Int.emod_nonneg _ (by omega), Int.emod_lt_of_pos _ hl⟩⟩
  · exact ⟨h1, Int.emod_nonneg _ (by omega), Int.emod_lt_of_pos _ (by omega), Paired.snoc h4 ⟨Int.emod_nonneg _ (by omega), Int.emod_lt_of_pos _ hl⟩⟩
theorem dinit_ok (c : Int) : DOk [] (dinit c) := by
  refine ⟨?_, Int.emod_nonneg _ (by omega), Int.emod_lt_of_pos _ (by omega), .nil⟩
  show 0 ≤ (if c < 0 then -c else c)
  split <;> omega
theorem dfold_ok (c : Int) : ∀ (n : Nat) (ls : List Int), (∀ l ∈ ls, 0 < l) → DOk (ls.take n) ((ls.take n).foldl (dstep (dfree c)) (dinit c))
  | 0, ls, h => by rw [List.take_zero]; exact dinit_ok c
  | n + 1, ls, h => by
    have ih := dfold_ok c n ls h
    by_cases hn : n < ls.length
    · rw [List.take_succ_eq_append_getElem hn, List.foldl_append]
      exact dstep_ok (h _ (List.getElem_mem hn)) ih
    · rw [List.take_of_length_le (by omega)] at ih ⊢
      exact ih
theorem draws_ok {c : Int} {ls : List Int} (h : ∀ l ∈ ls, 0 < l) : Paired (fun d l => 0 ≤ d ∧ d < l) (drawsF c ls) ls := by
  have z := dfold_ok c ls.length ls h
  rw [List.take_length] at z
  exact z.2.2.2
def spDraws (K : PySem.W.Frag) : Sp := fun vs H Q _ => ∃ (c : Int) (a : Addr) (ls : List Int), vs = [.int c, .ref a] ∧ SqL K H a (ls.map V.int) ∧ ls.length ≤ 1000 ∧ (∀ l ∈ ls, 0 < l ∧ l < 18446744073709551616) ∧
  ∀ (p : Addr) (H' : Hp), Same H H' → H p = none → H' p = some (.lst ((drawsF c ls).map V.int)) → Q (.ref p) H'
abbrev s__law_draws : Stmt := topS 8
theorem sc__law_draws : FnScope ["cell", "limits", "found", "rest", "state", "free", "limit"] ["cell", "limits"] (defScope s__law_draws) := ⟨rfl, rfl, rfl, by decide +kernel, rfl, by decide +kernel, by decide +kernel⟩
theorem ok__law_draws {f : Addr} {fd : FuncData} (F : Fun K "_law_draws" "_law_draws" s__law_draws f fd) (T : Txt K mg) : FnOk P w K mg base CX0 1 f fd ["cell", "limits"] (spDraws K) := by
  refine F.ok sc__law_draws (fun vs H Q E h => ?_) (fun cdv A outer s H vs Q E hr h => ?_)
  · obtain ⟨c, a, ls, rfl, _⟩ := h
    rfl
  obtain ⟨c, a, ls, rfl, hS, hn, hl, q⟩ := h
  have nd := sc__law_draws.nd
  refine ⟨_, (pss_cons (ps_set (i := 2) nd rfl (by first | exact Or.inl rfl | exact Or.inr rfl) (pe_lst pa_nil))
      (pss_cons (ps_set (i := 3) nd rfl (by first | exact Or.inl rfl | exact Or.inr rfl) (pe_callB c_abs (by rfl) T.abs_ (by decide +kernel) (pa_cons (pe_callTy c_int (by rfl) T.int_ (by decide +kernel) (pa_cons (pv 0) pa_nil)) pa_nil)))
      (pss_cons (ps_set (i := 4) nd rfl (by first | exact Or.inl rfl | exact Or.inr rfl) (pe_op o_mod (pe_callTy c_int (by rfl) T.int_ (by decide +kernel) (pa_cons (pv 3) pa_nil)) pe_int))
      (pss_cons (ps_set (i := 5) nd rfl (by first | exact Or.inl rfl | exact Or.inr rfl) (pe_or (pe_cmpR op_lt (pv 0) pe_int (nomark _)) (pe_one (pe_cmpR op_ge (pv 0) (pe_op op_pow pe_int pe_int) (nomark _)))))
      (pss_cons (ps_for PassesOwn.never rfl (pi_list (pv 1)) (pg_name (i := 6) nd rfl (by first | exact Or.inl rfl | exact Or.inr rfl))
      (pss_one (ps_if (PW.pt (pw_and (pt_val (pv 5)) (pw_and1 (pt_cmpR op_gt (pv 3) pe_int (nomark _))))) (pss_cons (ps_expr (pe_bm PySem.F.plainAttrs_list PySem.F.slot_list_append PySem.F.type_list_append mt_append (pv 2) (pa_cons (pe_op o_mod (pe_callTy c_int (by rfl) T.int_ (by decide +kernel) (pa_cons (pv 3) pa_nil)) (pv 6)) pa_nil)))
      (pss_one (ps_set (i := 3) nd rfl (by first | exact Or.inl rfl | exact Or.inr rfl) (pe_op op_fdivW (pv 3) (pv 6))))) (pss_cons (ps_set (i := 4) nd rfl (by first | exact Or.inl rfl | exact Or.inr rfl) (pe_op o_mod (pe_callTy c_int (by rfl) T.int_ (by decide +kernel) (pa_cons (pe_op op_add (pe_op op_mul (pv 4) pe_int) pe_int) pa_nil)) pe_int))
      (pss_cons (ps_set (i := 4) nd rfl (by first | exact Or.inl rfl | exact Or.inr rfl) (pe_op o_mod (pe_callTy c_int (by rfl) T.int_ (by decide +kernel) (pa_cons (pe_op op_add (pe_op op_mul (pv 4) pe_int) pe_int) pa_nil)) pe_int))
      (pss_one (ps_expr (pe_bm PySem.F.plainAttrs_list PySem.F.slot_list_append PySem.F.type_list_append mt_append (pv 2) (pa_cons (pe_op o_mod (pe_callTy c_int (by rfl) T.int_ (by decide +kernel) (pa_cons (pe_op op_fdivW (pv 4) pe_int) pa_nil)) (pv 6)) pa_nil)))))))))
      (pss_one (ps_ret (pv 2)))))))), ?_⟩
  have B1 : ∀ z : Int, 0 ≤ z → z < 2147483647 → CMul z 48271 := fun z h1 h2 => .inl ⟨by omega, by omega⟩
  have B2 : ∀ z : Int, 0 ≤ z → z < 2147483647 → CMul z 69621 := fun z h1 h2 => .inl ⟨by omega, by omega⟩
  refine q_asgL (el_lst ea_nil (by decide)) fun p H1 hp s1 e1 => ?_
  refine q_asg (ev_abs (ev_int (ev_var rfl))) fun H2 s2 => ?_
  refine q_asg (ev_op (ev_int (ev_var rfl)) ev_c (rv_I (by unfold CPos; decide))) fun H3 s3 => ?_
  refine q_asg (ev_orV (ev_op (ev_var rfl) ev_c rv_I0) fun _ => ev_op (ev_var rfl) (ev_op ev_c ev_c (rv_I ⟨by decide, by decide, by decide⟩)) rv_I0) fun H4 s4 => ?_
  have S0 : Ex H H4 := ((s1.trans s2).trans s3).trans s4
  refine q_forLn (ev_var rfl) (ex_l S0 hS) (fun i σ H' => ∃ st o6, (ls.take i).foldl (dstep (dfree c)) (dinit c) = st ∧
    σ = [some (.int c), some (.ref a), some (.ref p), some (.int st.1), some (.int st.2.1), some (.bl (dfree c)), o6] ∧ Ex H H' ∧ H' p = some (.lst (st.2.2.map V.int)))
    (fun H5 s5 => ⟨dinit c, none, rfl, rfl, S0.trans s5, s5 _ _ (s4 _ _ (s3 _ _ (s2 _ _ e1)))⟩) (fun i σ H' _ ⟨_, _, _, _, S, _⟩ => ex_l S hS) ?_ ?_
  · rintro i y σ H' hi ⟨st, o6, hst, rfl, S, hp'⟩
    have hi2 : i < ls.length := by
      have z := (List.getElem?_eq_some_iff.mp hi).1
      rw [List.length_map] at z
      exact z
    obtain ⟨l, rfl, el⟩ : ∃ l, y = V.int l ∧ ls[i] = l := ⟨ls[i], by
      rw [List.getElem?_map, List.getElem?_eq_getElem hi2] at hi
      exact (Option.some.inj hi).symm, rfl⟩
    have hl2 := hl l (by rw [← el]; exact List.getElem_mem hi2)
    have hok : DOk (ls.take i) st := by rw [← hst]; exact dfold_ok c i ls fun l h => (hl l h).1
    have est : (ls.take (i + 1)).foldl (dstep (dfree c)) (dinit c) = dstep (dfree c) st l := by
      rw [List.take_succ_eq_append_getElem hi2, List.foldl_append, hst, el]
      rfl
    have hlen : st.2.2.length = i := by
      have z := hok.2.2.2.length
      rw [List.length_take] at z
      omega
    have hsz : (st.2.2.map V.int).length < 100000 := by
      rw [List.length_map, hlen]
      omega
    have hz0 := Int.emod_nonneg (st.2.1 * 48271 + 11) (by decide : (2147483647 : Int) ≠ 0)
    have hz1 := Int.emod_lt_of_pos (st.2.1 * 48271 + 11) (by decide : (0 : Int) < 2147483647)
    refine s_if (et_and (et_B (ev_var rfl)) fun _ => et_test (ev_op (ev_var rfl) ev_c rv_I0)) (fun hb H5 s5 => ?_) (fun hb H5 s5 => ?_)
    · have ed : dstep (dfree c) st l = (st.1 / l, st.2.1, st.2.2 ++ [st.1 % l]) := if_pos hb
      refine q_app (s5 _ _ hp') (ev_var rfl) (ev_op (ev_int (ev_var rfl)) (ev_var rfl) (rv_I hl2.1)) hsz fun H6 s6 => ?_
      refine s_asg (ev_op (ev_var rfl) (ev_var rfl) (rv_I (wide_div hl2.1 (b := 64) (by have := hl2.2; omega) (by decide) (by decide)))) fun H7 s7 => ?_
      refine ⟨_, some (.int l), est, ?_, (Ex.mut ((S.trans s5).trans s6) hp).trans s7, s7 _ _ ?_⟩
      · rw [ed]; rfl
      · rw [ed, List.map_append]; exact upd_same
    · have ed : dstep (dfree c) st l = _ := if_neg (by rw [Bool.not_eq_true]; exact hb)
      refine q_asg (ev_op (ev_int (ev_op (ev_op (ev_var rfl) ev_c (rv_I (B1 _ hok.2.1 hok.2.2.1))) ev_c rv_I0)) ev_c (rv_I (by unfold CPos; decide))) fun H6 s6 => ?_
      refine q_asg (ev_op (ev_int (ev_op (ev_op (ev_var rfl) ev_c (rv_I (B2 _ hz0 hz1))) ev_c rv_I0)) ev_c (rv_I (by unfold CPos; decide))) fun H7 s7 => ?_
      refine s_app (s7 _ _ (s6 _ _ (s5 _ _ hp'))) (ev_var rfl) (ev_op (ev_int (ev_op (ev_var rfl) ev_c (rv_I (wide_div (by decide) (b := 64) (by decide) (by decide) (by decide))))) (ev_var rfl) (rv_I hl2.1)) hsz fun H8 s8 => ?_
      refine ⟨_, some (.int l), est, ?_, Ex.mut ((((S.trans s5).trans s6).trans s7).trans s8) hp, ?_⟩
      · rw [ed]; rfl
      · rw [ed, List.map_append]; exact upd_same
  · rintro σ H' ⟨st, o6, hst, rfl, S, hp'⟩
    rw [List.length_map, List.take_length] at hst
    refine s_ret (ev_var rfl) fun H5 s5 => q p H5 (S.trans s5) hp (s5 _ _ ?_)
    rw [hp', ← hst]
    rfl
end
end SB

set_option Elab.async false
set_option linter.all false
set_option maxRecDepth 100000
namespace SB
open PySem L2 Evl
/-! ### lists made of lists, texts joined -/
section
variable {K : PySem.W.Frag} {σ : L2.St} {H : Hp} {te ta tb : TE} {P : VH} {v x y : V} {xs ys : List V} {tt : TT}
theorem el_cat (h1 : EvP ta σ H (isL K xs)) (h2 : EvP tb σ H (isL K ys)) (hz : xs.length + ys.length ≤ 100000) : EvL (tOp (rCatL K) ta tb) σ H (xs ++ ys) := fun H1 e Q q =>
  h1 H1 e _ fun _ H2 e2 ⟨p, hv, sp⟩ => h2 H2 (e.trans e2) _ fun _ H3 e3 ⟨p2, hw, sp2⟩ =>
    ⟨p, p2, xs, ys, hv, hw, ex_l e3 sp, sp2, sz_of hz, fun r hr => q r _ (fresh_back (e2.trans e3) hr) ((e2.trans e3).trans (Ex.new hr)) upd_same⟩
theorem el_rep {k : Int} (h1 : EvL ta σ H xs) (h2 : ∀ H1, Ex H H1 → Ev tb σ H1 (.int k)) (h0 : 0 ≤ k) (hk : k ≤ 1000) (hz : xs.length * k.toNat ≤ 100000) : EvL (tOp rRep ta tb) σ H (List.replicate k.toNat xs).flatten := fun H1 e Q q =>
  h1 H1 e _ fun p H2 _ e2 hp => h2 H2 (e.trans e2) H2 (Ex.refl H2) _ fun H3 e3 =>
    ⟨p, k, xs, rfl, rfl, e3 _ _ hp, by omega, by omega, sz_of hz, fun r hr => q r _ (fresh_back (e2.trans e3) hr) ((e2.trans e3).trans (Ex.new hr)) upd_same⟩
theorem et_yes : EvT tYes σ H true := fun H1 _ _ q => q H1 (Ex.refl H1)
theorem given_all (n : Nat) (v : Nat → V) : given n (fun _ => true) v = (List.range n).map v := by
  unfold given
  rw [List.filter_eq_self.mpr (fun _ _ => rfl)]
end
theorem inV_str (x : Str) (ys : List Str) : inV (.str x) (ys.map V.str) = decide (x ∈ ys) := by
  induction ys with
  | nil => rfl
  | cons y r ih =>
    have e1 : inV (.str x) ((y :: r).map V.str) = ((y == x) || inV (.str x) (r.map V.str)) := rfl
    rw [e1, ih, Bool.eq_iff_iff, Bool.or_eq_true, decide_eq_true_eq, decide_eq_true_eq, List.mem_cons, beq_iff_eq]
    constructor
    · rintro (h | h)
      · exact .inl h.symm
      · exact .inr h
    · rintro (h | h)
      · exact .inl h.symm
      · exact .inr h
theorem flat_strs (ys : List Str) : (ys.map V.str).all flatV = true := by
  rw [List.all_map, List.all_eq_true]
  intro x _
  rfl

/-! ### the reserved words -/
def res1 : List Str := ["int", "bool", "channel", "task", "none", "true", "false", "not", "and", "or", "func", "let", "set", "emit", "if"]
def res2 : List Str := ["else", "while", "return", "throw", "try", "catch", "finally", "scope", "watch", "shield", "using", "spawn"]
def res3 : List Str := ["await", "cancel", "open", "send", "receive", "close", "sleep", "yield", "now", "call", "select", "after"]
def res4 : List Str := ["default", "end"]
def resW : List Str := res1 ++ res2 ++ res3 ++ res4
def spRes (K : PySem.W.Frag) : Sp := fun vs H Q _ => vs = [] ∧ ∀ v H2, Ex H H2 → isL K (resW.map V.str) v H2 → Q v H2
section
variable {P : Program} {w : World} {K : PySem.W.Frag} {mg : Str → Option Value} {base : Heap}
abbrev s__law_reserved : Stmt := topS 9
theorem sc__law_reserved : FnScope ["words"] [] (defScope s__law_reserved) := ⟨rfl, rfl, rfl, by decide +kernel, rfl, by decide +kernel, by decide +kernel⟩
theorem ok__law_reserved {f : Addr} {fd : FuncData} (F : Fun K "_law_reserved" "_law_reserved" s__law_reserved f fd) : FnOk P w K mg base CX0 1 f fd [] (spRes K) := by
  refine F.ok sc__law_reserved (fun vs H Q E h => ?_) (fun cdv A outer s H vs Q E hr h => ?_)
  · obtain ⟨rfl, _⟩ := h
    rfl
  obtain ⟨rfl, q⟩ := h
  have nd := sc__law_reserved.nd
  refine ⟨_, (pss_cons (ps_set (i := 0) nd rfl (by first | exact Or.inl rfl | exact Or.inr rfl) (pe_lst (pa_cons pe_str (pa_cons pe_str (pa_cons pe_str (pa_cons pe_str (pa_cons pe_str (pa_cons pe_str (pa_cons pe_str (pa_cons pe_str (pa_cons pe_str (pa_cons pe_str (pa_cons pe_str (pa_cons pe_str (pa_cons pe_str (pa_cons pe_str (pa_cons pe_str pa_nil)))))))))))))))))
      (pss_cons (ps_set (i := 0) nd rfl (by first | exact Or.inl rfl | exact Or.inr rfl) (pe_op op_catL (pv 0) (pe_lst (pa_cons pe_str (pa_cons pe_str (pa_cons pe_str (pa_cons pe_str (pa_cons pe_str (pa_cons pe_str (pa_cons pe_str (pa_cons pe_str (pa_cons pe_str (pa_cons pe_str (pa_cons pe_str (pa_cons pe_str pa_nil)))))))))))))))
      (pss_cons (ps_set (i := 0) nd rfl (by first | exact Or.inl rfl | exact Or.inr rfl) (pe_op op_catL (pv 0) (pe_lst (pa_cons pe_str (pa_cons pe_str (pa_cons pe_str (pa_cons pe_str (pa_cons pe_str (pa_cons pe_str (pa_cons pe_str (pa_cons pe_str (pa_cons pe_str (pa_cons pe_str (pa_cons pe_str (pa_cons pe_str pa_nil)))))))))))))))
      (pss_one (ps_ret (pe_op op_catL (pv 0) (pe_lst (pa_cons pe_str (pa_cons pe_str pa_nil))))))))), ?_⟩
  refine q_asgL (xs := res1.map V.str) (el_lst (by repeat first | exact ea_nil | refine ea_cons ev_c ?_) (by decide)) fun p1 H1 _ s1 e1 => ?_
  refine q_asgL (xs := (res1 ++ res2).map V.str) (el_cat (K := K) (xs := res1.map V.str) (ys := res2.map V.str) (ep_var rfl mono_L ⟨p1, rfl, sq_of e1⟩) (EvL.p (el_lst (by repeat first | exact ea_nil | refine ea_cons ev_c ?_) (by decide))) (by decide)) fun p2 H2 _ s2 e2 => ?_
  refine q_asgL (xs := (res1 ++ res2 ++ res3).map V.str) (el_cat (K := K) (xs := (res1 ++ res2).map V.str) (ys := res3.map V.str) (ep_var rfl mono_L ⟨p2, rfl, sq_of e2⟩) (EvL.p (el_lst (by repeat first | exact ea_nil | refine ea_cons ev_c ?_) (by decide))) (by decide)) fun p3 H3 _ s3 e3 => ?_
  refine s_retL (xs := resW.map V.str) (el_cat (K := K) (xs := (res1 ++ res2 ++ res3).map V.str) (ys := res4.map V.str) (ep_var rfl mono_L ⟨p3, rfl, sq_of e3⟩) (EvL.p (el_lst (by repeat first | exact ea_nil | refine ea_cons ev_c ?_) (by decide))) (by decide)) fun p4 H4 _ s4 e4 => ?_
  exact q _ H4 (((s1.trans s2).trans s3).trans s4) ⟨p4, rfl, sq_of e4⟩
end

/-! ### names -/
def lettersS : Str := "abcdefghijklmnopqrstuvwxyz"
def signsS : Str := lettersS ++ "0123456789"
def sgn (c : Nat) : Str := ⟨#[c]⟩
def sizesN : List Int := [1, 1, 2, 3, 5, 7, 6, 12]
def menuN : List Str := ["main", "normal", "ends", "value", "number1", "index1", "temp1", "hidden1", "slot0", "using1", "t0", "select1"]
def limsN : List Int := [8, 26] ++ List.replicate 11 36
def cand (k j : Nat) : Str := sgn (lettersS.cps.toList.getD (j % 26) 0) ++ (toString (k : Int) : Str) ++ cutS "xx" none (some ((j / 26 : Nat) : Int))
def nstep (bad : List Str) (k : Nat) (name : Str) (j : Nat) : Str := if decide (name ∈ bad) || decide (name ∈ resW) then cand k j else name
def name0 (ds : List Int) : Str := sgn (lettersS.cps.toList.getD (ds.getD 1 0).toNat 0) ++ Str.join "" ((List.range ((sizesN.getD (ds.getD 0 0).toNat 0) - 1).toNat).map fun j => sgn (signsS.cps.toList.getD (ds.getD (2 + j) 0).toNat 0))
def name1 (ds : List Int) : Str := if ds.getD 0 0 = 6 then menuN.getD ((ds.getD 1 0) % 12).toNat "" else name0 ds
def nameN (c : Int) (names : List Str) (k : Nat) : Str := (List.range 78).foldl (nstep names k) (name1 (drawsF (c / 7 + 31 * k) limsN))
def namesF (c : Int) : Nat → List Str
  | 0 => []
  | n + 1 => namesF c n ++ [nameN c (namesF c n) n]
theorem app_cps (a b : Str) : (a ++ b).cps.toList = a.cps.toList ++ b.cps.toList := by
  show (a.cps ++ b.cps).toList = _
  exact Array.toList_append
theorem cand_cps (k j : Nat) : (cand k j).cps.toList = lettersS.cps.toList.getD (j % 26) 0 :: ((toString (k : Int) : Str).cps.toList ++ (cutS "xx" none (some ((j / 26 : Nat) : Int))).cps.toList) := by
  unfold cand
  rw [app_cps, app_cps]
  rfl
theorem letters_inj : ∀ i < 26, ∀ j < 26, lettersS.cps.toList.getD i 0 = lettersS.cps.toList.getD j 0 → i = j := by decide +kernel
theorem xs_len : ∀ q < 3, (cutS "xx" none (some ((q : Nat) : Int))).cps.toList.length = q := by decide +kernel
theorem dig_k : ∀ k < 64, ∃ d r, (toString ((k : Nat) : Int) : Str).cps.toList = d :: r ∧ 48 ≤ d ∧ d ≤ 57 := by
  have z : ∀ k < 64, (match (toString ((k : Nat) : Int) : Str).cps.toList with | d :: _ => decide (48 ≤ d) && decide (d ≤ 57) | [] => false) = true := by decide +kernel
  intro k hk
  have y := z k hk
  split at y
  · rename_i d r e
    rw [Bool.and_eq_true, decide_eq_true_eq, decide_eq_true_eq] at y
    exact ⟨d, r, e, y.1, y.2⟩
  · cases y
theorem res_nodig : ∀ w ∈ resW, (match w.cps.toList with | _ :: d :: _ => decide (d < 48) || decide (57 < d) | _ => true) = true := by decide +kernel
theorem cand_inj {k i j : Nat} (hi : i < 78) (hj : j < 78) (h : cand k i = cand k j) : i = j := by
  have e := congrArg (fun z : Str => z.cps.toList) h
  simp only [cand_cps] at e
  injection e with e1 e2
  have e3 := letters_inj (i % 26) (by omega) (j % 26) (by omega) e1
  have e4 := congrArg List.length (List.append_cancel_left e2)
  rw [xs_len (i / 26) (by omega), xs_len (j / 26) (by omega)] at e4
  omega
theorem cand_free {k j : Nat} (hk : k < 64) : cand k j ∉ resW := fun h => by
  have z := res_nodig _ h
  obtain ⟨d, r, e, h1, h2⟩ := dig_k k hk
  rw [cand_cps, e] at z
  simp only [List.cons_append, Bool.or_eq_true, decide_eq_true_eq] at z
  omega
/-- behind the turns: the name is free, or all that was tried is taken -/
theorem nfold_inv {bad : List Str} {k : Nat} {n0 : Str} : ∀ m : Nat, ((List.range m).foldl (nstep bad k) n0 ∉ bad ∧ (List.range m).foldl (nstep bad k) n0 ∉ resW) ∨
    ((∀ j, j + 1 < m → cand k j ∈ bad ∨ cand k j ∈ resW) ∧ (0 < m → (List.range m).foldl (nstep bad k) n0 = cand k (m - 1)))
  | 0 => .inr ⟨fun j h => by omega, fun h => by omega⟩
  | m + 1 => by
    have ih := nfold_inv (bad := bad) (k := k) (n0 := n0) m
    rw [List.range_succ, List.foldl_append]
    show (nstep bad k _ m ∉ bad ∧ nstep bad k _ m ∉ resW) ∨ _ ∧ (_ → nstep bad k _ m = _)
    generalize hv : (List.range m).foldl (nstep bad k) n0 = v at ih
    by_cases hb : v ∈ bad ∨ v ∈ resW
    · right
      have e : nstep bad k v m = cand k m := if_pos (by rw [Bool.or_eq_true, decide_eq_true_eq, decide_eq_true_eq]; exact hb)
      rcases ih with ⟨h1, h2⟩ | ⟨h1, h2⟩
      · rcases hb with hb | hb
        · exact absurd hb h1
        · exact absurd hb h2
      · refine ⟨fun j hj => ?_, fun _ => e⟩
        by_cases hjm : j + 1 < m
        · exact h1 j hjm
        · have ej : j = m - 1 := by omega
          rw [ej, ← h2 (by omega)]
          exact hb
    · left
      have e : nstep bad k v m = v := if_neg (by rw [Bool.or_eq_true, decide_eq_true_eq, decide_eq_true_eq]; exact hb)
      rw [e]
      exact not_or.mp hb
theorem nfold_free {bad : List Str} {k : Nat} {n0 : Str} (hk : k < 64) (hb : bad.length < 77) : (List.range 78).foldl (nstep bad k) n0 ∉ bad ∧ (List.range 78).foldl (nstep bad k) n0 ∉ resW := by
  rcases nfold_inv (bad := bad) (k := k) (n0 := n0) 78 with h | ⟨h1, _⟩
  · exact h
  · exfalso
    have nd : ((List.range 77).map (cand k)).Nodup := by
      rw [List.nodup_iff_pairwise_ne, List.pairwise_map]
      refine List.Pairwise.imp_of_mem ?_ (List.nodup_iff_pairwise_ne.mp List.nodup_range)
      intro a b ha hb2 hab e
      have ha := List.mem_range.mp ha
      have hb2 := List.mem_range.mp hb2
      exact hab (cand_inj (by omega) (by omega) e)
    have sub : ((List.range 77).map (cand k)) ⊆ bad := by
      intro x hx
      obtain ⟨j, hj, rfl⟩ := List.mem_map.mp hx
      have hj := List.mem_range.mp hj
      rcases h1 j (by omega) with h | h
      · exact h
      · exact absurd h (cand_free hk)
    have l := (List.nodup_iff_pairwise_ne.mp nd)
    have z := List.Nodup.length_le_of_subset nd sub
    rw [List.length_map, List.length_range] at z
    omega
theorem names_len (c : Int) : ∀ n, (namesF c n).length = n
  | 0 => rfl
  | n + 1 => by
    show (namesF c n ++ [nameN c (namesF c n) n]).length = n + 1
    rw [List.length_append, names_len c n]
    rfl
theorem names_nodup (c : Int) : ∀ n, n ≤ 64 → (namesF c n).Nodup
  | 0, _ => .nil
  | n + 1, h => by
    show (namesF c n ++ [nameN c (namesF c n) n]).Nodup
    have f := (nfold_free (bad := namesF c n) (k := n) (n0 := name1 (drawsF (c / 7 + 31 * n) limsN)) (by omega) (by rw [names_len]; omega)).1
    rw [List.nodup_append]
    refine ⟨names_nodup c n (by omega), (List.pairwise_singleton _ _), fun a ha b hb e => ?_⟩
    rw [List.mem_singleton] at hb
    subst e hb
    exact f ha
end SB

set_option Elab.async false
set_option linter.all false
set_option maxRecDepth 100000
namespace SB
open PySem L2 Evl
def rJoin (K : PySem.W.Frag) : V → List V → Hp → VK → Prop := fun x xs H Q => ∃ a p, ∃ ys : List Str, x = .str a ∧ xs = [.ref p] ∧ (SqL K H p (ys.map V.str) ∨ SqT K H p (ys.map V.str)) ∧
      (ys.map (·.length)).sum + ys.length * a.length ≤ 16777216 ∧ Q (.str (Txt.join a ys)) H
section
variable {K : PySem.W.Frag} {σ : L2.St} {H : Hp} {te ta tb : TE} {P : VH} {v x y : V} {xs ys : List V} {tt : TT} {tl th : TO}
theorem EvL.cast (h : EvL te σ H xs) (e : xs = ys) : EvL te σ H ys := e ▸ h
theorem ev_join {a : Str} {zs : List Str} (h1 : Ev ta σ H (.str a)) (h2 : EvP te σ H (isL K (zs.map V.str))) (hz : (zs.map (·.length)).sum + zs.length * a.length ≤ 16777216) : Ev (tM1 (rJoin K) ta te) σ H (.str (Str.join a zs)) := fun H1 e Q q =>
  h1 H1 e _ fun H2 e2 => ⟨⟨a, rfl⟩, h2 H2 (e.trans e2) _ fun v H3 e3 ⟨p, hp, hs⟩ => ⟨a, p, zs, rfl, by rw [hp], .inl hs, hz, by rw [TL.join_eq]; exact q H3 (e2.trans e3)⟩⟩
theorem ev_slS {z : Str} {lo hi : Option Int} (h : Ev te σ H (.str z)) (h1 : EvO tl σ H lo) (h2 : EvO th σ H hi) (hz : z.length ≤ 100000) : Ev (tSl rSlS te tl th) σ H (.str (cutS z lo hi)) := fun H1 e Q q =>
  h H1 e _ fun H2 e2 => h1 H2 (e.trans e2) _ fun H3 e3 => h2 H3 ((e.trans e2).trans e3) _ fun H4 e4 => ⟨z, rfl, sz_of hz, q H4 ((e2.trans e3).trans e4)⟩
theorem ev_ixS {w : Str} {i : Int} {c : Nat} (h : Ev ta σ H (.str w)) (hi : Ev tb σ H (.int i)) (hw : w.length ≤ 100000) (ha : atI w.cps.toList i = some c) : Ev (tOp rIxS ta tb) σ H (.str (⟨#[c]⟩)) := ev_op h hi (rv_ixS hw ha)
end
theorem atI_getD {α : Type} {xs : List α} {z : Int} (d : α) (h0 : 0 ≤ z) (h : z < xs.length) : atI xs z = some (xs.getD z.toNat d) := by
  have e : z = ((z.toNat : Nat) : Int) := by omega
  have hk : z.toNat < xs.length := by omega
  rw [e]
  exact atI_nat (by rw [List.getD_eq_getElem?_getD, List.getElem?_eq_getElem hk, Int.toNat_natCast, List.getElem?_eq_getElem hk] <;> rfl)
theorem atI_int {xs : List Int} {z : Int} (h0 : 0 ≤ z) (h : z < xs.length) : atI (xs.map V.int) z = some (.int (xs.getD z.toNat 0)) := by
  rw [atI_getD (.int 0) h0 (by rw [List.length_map]; exact h), List.getD_eq_getElem?_getD, List.getElem?_map, List.getD_eq_getElem?_getD]
  have hk : z.toNat < xs.length := by omega
  rw [List.getElem?_eq_getElem hk]
  rfl
theorem atI_str {xs : List Str} {z : Int} (h0 : 0 ≤ z) (h : z < xs.length) : atI (xs.map V.str) z = some (.str (xs.getD z.toNat "")) := by
  rw [atI_getD (.str "") h0 (by rw [List.length_map]; exact h), List.getD_eq_getElem?_getD, List.getElem?_map, List.getD_eq_getElem?_getD]
  have hk : z.toNat < xs.length := by omega
  rw [List.getElem?_eq_getElem hk]
  rfl
theorem paired_get {R : Int → Int → Prop} : ∀ {xs ys : List Int}, Paired R xs ys → ∀ i, i < ys.length → R (xs.getD i 0) (ys.getD i 0)
  | _, _, .nil, _, h => absurd h (Nat.not_lt_zero _)
  | _, _, .cons a _, 0, _ => a
  | _, _, .cons _ t, i + 1, h => paired_get t i (Nat.lt_of_succ_lt_succ h)
theorem join0_len : ∀ ys : List Str, (Str.join "" ys).length = (ys.map (·.length)).sum
  | [] => rfl
  | [x] => by simp [Str.join]
  | x :: z :: r => by
    show (x ++ "" ++ Str.join "" (z :: r)).length = _
    rw [Str.length_append, Str.length_append, join0_len (z :: r)]
    rfl
theorem sum_ones {α : Type} (f : α → Str) (hf : ∀ a, (f a).length = 1) : ∀ xs : List α, ((xs.map f).map (·.length)).sum = xs.length
  | [] => rfl
  | x :: r => by
    show (f x).length + ((r.map f).map (·.length)).sum = r.length + 1
    rw [hf, sum_ones f hf r]
    omega
/-! ### calls of what stands -/
theorem sp_draws {K : PySem.W.Frag} {H : Hp} {c : Int} {ls : List Int} (hn : ls.length ≤ 1000) (hl : ∀ l ∈ ls, 0 < l ∧ l < 18446744073709551616) :
    SpP (spDraws K) (aCons (isV (.int c)) (aCons (isL K (ls.map V.int)) (fun vs _ => vs = []))) H (isL K ((drawsF c ls).map V.int)) := by
  rintro vs H1 e ⟨v, r, rfl, ev, v2, r2, rfl, ⟨a, rfl, hS⟩, rfl⟩ Q q E
  obtain rfl : v = V.int c := ev
  exact ⟨c, a, ls, rfl, hS, hn, hl, fun p H' s _ h => q _ H' s ⟨p, rfl, sq_of h⟩⟩
theorem sp_res {K : PySem.W.Frag} {H : Hp} : SpP (spRes K) (fun vs _ => vs = []) H (isL K (resW.map V.str)) := by
  rintro vs H1 e rfl Q q E
  exact ⟨rfl, q⟩
def spNames (K : PySem.W.Frag) : Sp := fun vs H Q _ => ∃ (c : Int) (n : Nat), vs = [.int c, .int n] ∧ n ≤ 64 ∧ ∀ v H2, Ex H H2 → isL K ((namesF c n).map V.str) v H2 → Q v H2
theorem limsN_ok : ∀ l ∈ limsN, 0 < l ∧ l < 18446744073709551616 := by decide +kernel
theorem letters_len : lettersS.length = 26 := by decide +kernel
theorem signs_len : signsS.length = 36 := by decide +kernel
theorem str_len : ∀ k < 64, (toString ((k : Nat) : Int) : Str).length ≤ 2 := by decide +kernel
theorem xx_len : ∀ q < 3, (cutS "xx" none (some ((q : Nat) : Int))).length ≤ 2 := by decide +kernel
theorem sizes_ok : ∀ i < 8, 1 ≤ sizesN.getD i 0 ∧ sizesN.getD i 0 ≤ 12 := by decide +kernel
section
variable {P : Program} {w : World} {K : PySem.W.Frag} {mg : Str → Option Value} {base : Heap}
abbrev s__law_names : Stmt := topS 10
theorem sc__law_names : FnScope ["cell", "count", "reserved", "letters", "signs", "names", "k", "draws", "size", "name", "menu", "j"] ["cell", "count"] (defScope s__law_names) := ⟨rfl, rfl, rfl, by decide +kernel, rfl, by decide +kernel, by decide +kernel⟩
theorem ok__law_names {f : Addr} {fd : FuncData} (F : Fun K "_law_names" "_law_names" s__law_names f fd) (T : Txt K mg) (F__law_draws : Fn P w K mg base 1 "_law_draws" ["cell", "limits"] (spDraws K)) (F__law_reserved : Fn P w K mg base 1 "_law_reserved" [] (spRes K)) :
    FnOk P w K mg base CX0 2 f fd ["cell", "count"] (spNames K) := by
  refine F.ok sc__law_names (fun vs H Q E h => ?_) (fun cdv A outer s H vs Q E hr h => ?_)
  · obtain ⟨c, n, rfl, _⟩ := h
    rfl
  obtain ⟨c, n, rfl, hn, q⟩ := h
  have nd := sc__law_names.nd
  have hr__law_draws := hr
  have hr__law_reserved := hr
  refine ⟨_, (pss_cons (ps_set (i := 2) nd rfl (by first | exact Or.inl rfl | exact Or.inr rfl) (pe_fn0 F__law_reserved hr__law_reserved (by rfl)))
      (pss_cons (ps_set (i := 3) nd rfl (by first | exact Or.inl rfl | exact Or.inr rfl) pe_str)
      (pss_cons (ps_set (i := 4) nd rfl (by first | exact Or.inl rfl | exact Or.inr rfl) (pe_op o_addS (pv 3) pe_str))
      (pss_cons (ps_set (i := 5) nd rfl (by first | exact Or.inl rfl | exact Or.inr rfl) (pe_lst pa_nil))
      (pss_cons (ps_for PassesOwn.never rfl (pi_range1 rfl T.range_ (pa_cons (pv 1) pa_nil)) (pg_name (i := 6) nd rfl (by first | exact Or.inl rfl | exact Or.inr rfl))
      (pss_cons (ps_set (i := 7) nd rfl (by first | exact Or.inl rfl | exact Or.inr rfl) (pe_fn F__law_draws hr__law_draws (by rfl) (pa_cons (pe_op op_add (pe_op op_fdivW (pe_callTy c_int (by rfl) T.int_ (by decide +kernel) (pa_cons (pv 0) pa_nil)) pe_int) (pe_op op_mul pe_int (pv 6))) (pa_cons (pe_op op_catL (pe_lst (pa_cons pe_int (pa_cons pe_int pa_nil))) (pe_op op_rep (pe_lst (pa_cons pe_int pa_nil)) pe_int)) pa_nil))))
      (pss_cons (ps_set (i := 8) nd rfl (by first | exact Or.inl rfl | exact Or.inr rfl) (pe_ix ix_list (pe_lst (pa_cons pe_int (pa_cons pe_int (pa_cons pe_int (pa_cons pe_int (pa_cons pe_int (pa_cons pe_int (pa_cons pe_int (pa_cons pe_int pa_nil))))))))) (pe_ix ix_list (pv 7) pe_int (fun _ _ => rfl)) (fun _ _ => rfl)))
      (pss_cons (ps_set (i := 9) nd rfl (by first | exact Or.inl rfl | exact Or.inr rfl) (pe_op o_addS (pe_ix ix_str (pv 3) (pe_ix ix_list (pv 7) pe_int (fun _ _ => rfl)) (fun _ _ => rfl)) (pe_join pe_str (pe_lc (own := [("j", 11)]) (tt := tYes) (by rfl) nd (pi_range1 rfl T.range_ (pa_cons (pe_op op_sub (pv 8) pe_int) pa_nil)) (blkOk_by (own := [("j", 11)]) (N := ["cell", "count", "reserved", "letters", "signs", "names", "k", "draws", "size", "name", "menu", "j"]) (sc := defScope s__law_names) (by decide +kernel)) (fun _ _ _ _ _ => (pg_name (i := 11) nd rfl (by first | exact Or.inl rfl | exact Or.inr rfl))) (fun _ _ _ _ _ => pts_nil) (fun _ _ _ _ _ => (pe_ix ix_str (pv 4) (pe_ix (ixL_K K rfl) (pv 7) (pe_op op_add pe_int (pv 11)) (fun _ _ => rfl)) (fun _ _ => rfl)))))))
      (Evl.pss_cut (ps_if (pt_cmpR op_eq (pe_ix ix_list (pv 7) pe_int (fun _ _ => rfl)) pe_int (nomark _)) (pss_cons (ps_set (i := 10) nd rfl (by first | exact Or.inl rfl | exact Or.inr rfl) (pe_lst (pa_cons pe_str (pa_cons pe_str (pa_cons pe_str (pa_cons pe_str (pa_cons pe_str (pa_cons pe_str (pa_cons pe_str (pa_cons pe_str (pa_cons pe_str (pa_cons pe_str (pa_cons pe_str (pa_cons pe_str pa_nil))))))))))))))
      (pss_one (ps_set (i := 9) nd rfl (by first | exact Or.inl rfl | exact Or.inr rfl) (pe_ix ix_list (pv 10) (pe_op o_mod (pe_callTy c_int (by rfl) T.int_ (by decide +kernel) (pa_cons (pe_ix ix_list (pv 7) pe_int (fun _ _ => rfl)) pa_nil)) pe_int) (fun _ _ => rfl))))) pss_nil)
      (pss_cons (ps_for PassesOwn.never rfl (pi_range1 rfl T.range_ (pa_cons pe_int pa_nil)) (pg_name (i := 11) nd rfl (by first | exact Or.inl rfl | exact Or.inr rfl))
      (pss_one (ps_if (PW.pt (pw_or (pt_cmpR op_in_seq (pv 9) (pv 5) (by with_unfolding_all rfl)) (pw_or1 (pt_cmpR op_in_seq (pv 9) (pv 2) (by with_unfolding_all rfl))))) (pss_one (ps_set (i := 9) nd rfl (by first | exact Or.inl rfl | exact Or.inr rfl) (pe_op o_addS (pe_op o_addS (pe_ix ix_str (pv 3) (pe_op o_mod (pe_callTy c_int (by rfl) T.int_ (by decide +kernel) (pa_cons (pv 11) pa_nil)) pe_int) (fun _ _ => rfl)) (pe_callTy c_str (by rfl) T.str_ (by decide +kernel) (pa_cons (pv 6) pa_nil))) (pe_slice sl_str pe_str po_none (po_some (pe_op op_fdivW (pv 11) pe_int)))))) pss_nil)))
      (pss_one (ps_expr (pe_bm PySem.F.plainAttrs_list PySem.F.slot_list_append PySem.F.type_list_append mt_append (pv 5) (pa_cons (pv 9) pa_nil))))))))))
      (pss_one (ps_ret (pv 5)))))))), ?_⟩
  refine qp_asg (ep_call ap_nil sp_res) fun vr H1 s1 ⟨r, er, hR⟩ => ?_
  subst er
  refine q_asg ev_c fun H2 s2 => ?_
  refine q_asg (ev_op (ev_var rfl) ev_c (rv_addS (by decide +kernel))) fun H3 s3 => ?_
  refine q_asgL (el_lst ea_nil (by decide)) fun p H4 hp s4 e4 => ?_
  have hR3 : SqL K H3 r (resW.map V.str) := ex_l (s2.trans s3) hR
  have S3 : Ex H H3 := (s1.trans s2).trans s3
  refine q_forR1 (n := (n : Int)) (ea_cons (ev_var rfl) ea_nil) ⟨by omega, by omega⟩ (fun k σ H' => ∃ o6 o7 o8 o9 o10 o11,
    σ = [some (.int c), some (.int n), some (.ref r), some (.str lettersS), some (.str signsS), some (.ref p), o6, o7, o8, o9, o10, o11] ∧ Ex H3 H' ∧ H' p = some (.lst ((namesF c k).map V.str)))
    (fun H5 s5 => ⟨none, none, none, none, none, none, rfl, s4.trans s5, s5 _ _ e4⟩) ?_ ?_
  · rintro k σ H' hk ⟨o6, o7, o8, o9, o10, o11, rfl, S, hp'⟩
    have hk64 : k < 64 := by omega
    refine qp_asg (ep_call (ap_cons mono_V (Ev.p (ev_op (ev_op (ev_int (ev_var rfl)) ev_c (rv_I (wide_div (by decide) (b := 64) (by decide) (by decide) (by decide)))) (ev_op ev_c (ev_var rfl) (rv_I (.inl ⟨by decide, by decide⟩))) rv_I0))
      (ap_cons mono_L (EvL.p (EvL.cast (ys := limsN.map V.int) (el_cat (K := K) (EvL.p (el_lst (ea_cons ev_c (ea_cons ev_c ea_nil)) (by decide))) (EvL.p (el_rep (el_lst (ea_cons ev_c ea_nil) (by decide)) (fun _ _ => ev_c) (by decide) (by decide) (by decide))) (by decide +kernel)) (by decide +kernel))) ap_nil)) (sp_draws (by decide) limsN_ok)) fun vd H5 s5 ⟨d, ed, hD⟩ => ?_
    subst ed
    have hP := draws_ok (c := c / 7 + 31 * (k : Int)) (ls := limsN) fun l h => (limsN_ok l h).1
    have hPl := hP.length
    have hlim : limsN.length = 13 := by decide +kernel
    have lim2 : ∀ i, i < 13 → limsN.getD i 0 ≤ 36 := by decide +kernel
    have hb : ∀ i, i < 13 → 0 ≤ (drawsF (c / 7 + 31 * (k : Int)) limsN).getD i 0 ∧ (drawsF (c / 7 + 31 * (k : Int)) limsN).getD i 0 < 36 := fun i hi => by
      have z := paired_get hP i (by omega)
      have z2 := lim2 i hi
      exact ⟨z.1, by omega⟩
    have hb0 : 0 ≤ (drawsF (c / 7 + 31 * (k : Int)) limsN).getD 0 0 ∧ (drawsF (c / 7 + 31 * (k : Int)) limsN).getD 0 0 < 8 := paired_get hP 0 (by omega)
    have hb1 : 0 ≤ (drawsF (c / 7 + 31 * (k : Int)) limsN).getD 1 0 ∧ (drawsF (c / 7 + 31 * (k : Int)) limsN).getD 1 0 < 26 := paired_get hP 1 (by omega)
    have hnm : nameN c (namesF c k) k = (List.range 78).foldl (nstep (namesF c k) k) (name1 (drawsF (c / 7 + 31 * (k : Int)) limsN)) := rfl
    generalize hds : drawsF (c / 7 + 31 * (k : Int)) limsN = ds at *
    rw [hlim] at hPl
    have at_d : ∀ z : Int, 0 ≤ z → z < 13 → atI (ds.map V.int) z = some (.int (ds.getD z.toNat 0)) := fun z h0 h1 => atI_int h0 (by omega)
    have at0 : atI (ds.map V.int) 0 = some (.int (ds.getD 0 0)) := at_d 0 (by decide) (by decide)
    have at1 : atI (ds.map V.int) 1 = some (.int (ds.getD 1 0)) := at_d 1 (by decide) (by decide)
    have hsz := sizes_ok (ds.getD 0 0).toNat (by omega)
    -- size
    refine q_asg (v := .int (sizesN.getD (ds.getD 0 0).toNat 0)) (ev_ixN (xs := sizesN.map V.int) (el_lst (by repeat first | exact ea_nil | refine ea_cons ev_c ?_) (by decide)) (fun H1 e => ev_ixL (ev_var rfl) ev_c (ex_l e hD) at0) (atI_int hb0.1 (by show _ < ((8 : Nat) : Int); omega))) fun H6 s6 => ?_
    generalize hsize : sizesN.getD (ds.getD 0 0).toNat 0 = size at *
    have hD6 := ex_l s6 hD
    -- name0
    have hj0 : ((((List.range (size - 1).toNat).map fun j => sgn (signsS.cps.toList.getD (ds.getD (2 + j) 0).toNat 0)).map (·.length)).sum = (size - 1).toNat) := by
      rw [sum_ones _ (fun _ => rfl), List.length_range]
    refine q_asg (v := .str (name0 ds)) (ev_is (ev_op (ev_ixS (ev_var rfl) (ev_ixL (ev_var rfl) ev_c hD6 at1) (by decide +kernel) (atI_getD 0 hb1.1 (by have := letters_len; show _ < ((26 : Nat) : Int); omega)))
      (ev_join (K := K) (zs := (List.range (size - 1).toNat).map fun j => sgn (signsS.cps.toList.getD (ds.getD (2 + j) 0).toNat 0)) ev_c (EvL.p (EvL.cast (el_lcR1 (n := size - 1) (fun _ => true) (fun j => .str (sgn (signsS.cps.toList.getD (ds.getD (2 + j) 0).toNat 0))) (ea_cons (ev_op (ev_var rfl) ev_c rv_I0) ea_nil) ⟨by omega, by omega⟩ (fun _ => rfl) (fun _ _ _ _ => et_yes)
        (fun i H7 s7 hi _ => ev_is (ev_ixS (ev_var rfl) (ev_ixL (ev_var rfl) (ev_op ev_c (ev_var rfl) rv_I0) (ex_l s7 hD6) (at_d (2 + (i : Int)) (by omega) (by omega))) (by decide +kernel) (atI_getD 0 (by have := hb (2 + (i : Int)).toNat (by omega); omega) (by have := hb (2 + (i : Int)).toNat (by omega); show _ < ((36 : Nat) : Int); omega))) (by
          have e : (2 + (i : Int)).toNat = 2 + i := by omega
          rw [e]
          rfl))) (by rw [given_all, List.map_map]; rfl))) (by
            rw [hj0, List.length_map, List.length_range]
            show _ + _ * 0 ≤ _
            omega)) (rv_addS (by
            rw [join0_len, hj0]
            show 1 + _ ≤ _
            exact sz_of (by omega)))) (by unfold name0; rw [hsize]; rfl)) fun H7 s7 => ?_
    have hD7 := ex_l s7 hD6
    -- name1
    refine Evl.q_cut (M := fun σ' H8 => ∃ o8 o10 o11, σ' = [some (.int c), some (.int n), some (.ref r), some (.str lettersS), some (.str signsS), some (.ref p), some (.int k), some (.ref d), o8, some (.str (name1 ds)), o10, o11] ∧ Ex H7 H8) ?_ ?_
    · refine s_if (b := decide (ds.getD 0 0 = 6)) (et_is (et_test (ev_op (ev_ixL (ev_var rfl) ev_c hD7 at0) ev_c (rv_eq rfl))) ?_) (fun hb6 H8 s8 => ?_) (fun hb6 H8 s8 => ?_)
      · rw [Bool.eq_iff_iff, decide_eq_true_eq, decide_eq_true_eq]
        exact ⟨fun h => by injection h, fun h => congrArg V.int h⟩
      · refine q_asgL (xs := menuN.map V.str) (el_lst (by repeat first | exact ea_nil | refine ea_cons ev_c ?_) (by decide)) fun pm H9 _ s9 e9 => ?_
        refine s_asg (ev_ixL (ev_var rfl) (ev_op (ev_int (ev_ixL (ev_var rfl) ev_c (ex_l (s8.trans s9) hD7) at1)) ev_c (rv_I (by unfold CPos; decide))) (sq_of e9) (atI_str (Int.emod_nonneg _ (by decide)) (by
          have z := Int.emod_lt_of_pos (ds.getD 1 0) (by decide : (0 : Int) < 12)
          show _ < ((12 : Nat) : Int)
          exact z))) fun H10 s10 => ?_
        refine ⟨some (.int size), some (.ref pm), o11, ?_, (s8.trans s9).trans s10⟩
        rw [show name1 ds = menuN.getD ((ds.getD 1 0) % 12).toNat "" from if_pos (of_decide_eq_true hb6)]
        rfl
      · refine ⟨some (.int size), o10, o11, ?_, s8⟩
        rw [show name1 ds = name0 ds from if_neg (of_decide_eq_false hb6)]
        rfl
    rintro σ' H8 ⟨o8', o10', o11', rfl, s8⟩
    have hp8 : H8 p = some (.lst ((namesF c k).map V.str)) := s8 _ _ (s7 _ _ (s6 _ _ (s5 _ _ hp')))
    have S8 : Ex H3 H8 := (((S.trans s5).trans s6).trans s7).trans s8
    have hR8 := ex_l S8 hR3
    -- the turns
    refine q_forR1 (n := 78) (ea_cons ev_c ea_nil) ⟨by decide, by decide⟩ (fun j σ' H9 => ∃ o11, σ' = [some (.int c), some (.int n), some (.ref r), some (.str lettersS), some (.str signsS), some (.ref p), some (.int k), some (.ref d), o8',
      some (.str ((List.range j).foldl (nstep (namesF c k) k) (name1 ds))), o10', o11] ∧ Ex H8 H9) (fun H9 s9 => ⟨o11', rfl, s9⟩) ?_ ?_
    · rintro j σ' H9 hj ⟨o11, rfl, s9⟩
      have ej : (List.range (j + 1)).foldl (nstep (namesF c k) k) (name1 ds) = nstep (namesF c k) k ((List.range j).foldl (nstep (namesF c k) k) (name1 ds)) j := by
        rw [List.range_succ, List.foldl_append]
        rfl
      generalize hnv : (List.range j).foldl (nstep (namesF c k) k) (name1 ds) = nm at *
      refine s_when (et_or (et_test (ev_op (ev_var rfl) (ev_var rfl) (rv_isL (sq_of (s9 _ _ hp8)) rfl (flat_strs _)))) fun _ => et_test (ev_op (ev_var rfl) (ev_var rfl) (rv_isL (ex_l s9 hR8) rfl (flat_strs _)))) (fun hb9 H10 s10 => ?_) (fun hb9 H10 s10 => ?_)
      · rw [inV_str, inV_str] at hb9
        have en : nstep (namesF c k) k nm j = cand k j := if_pos hb9
        have hq : (j : Int) / 26 = ((j / 26 : Nat) : Int) := by omega
        have hm : ((j : Int) % 26).toNat = j % 26 := by omega
        have l1 := str_len k hk64
        have l2 := xx_len (j / 26) (by omega)
        refine s_asg (ev_is (w := .str (cand k j)) (v := .str (sgn (lettersS.cps.toList.getD ((j : Int) % 26).toNat 0) ++ (toString (k : Int) : Str) ++ cutS "xx" none (some ((j : Int) / 26))))
          (ev_op (ev_op (ev_ixS (ev_var rfl) (ev_op (ev_int (ev_var rfl)) ev_c (rv_I (by unfold CPos; decide))) (by decide +kernel) (atI_getD 0 (Int.emod_nonneg _ (by decide)) (by have z := Int.emod_lt_of_pos (j : Int) (by decide : (0 : Int) < 26); show _ < ((26 : Nat) : Int); exact z)))
            (ev_str (ev_var rfl) (by
              have h6 : ((k : Int)).natAbs < 2 ^ 64 := by omega
              exact Nat.lt_of_lt_of_le (PySem.Flt.log2_lt_of (by decide) h6) (by decide))) (rv_addS (by show 1 + _ ≤ _; exact sz_of (by omega))))
          (ev_slS ev_c eo_none (eo_some (ev_op (ev_var rfl) ev_c (rv_I (wide_div (by decide) (b := 64) (by decide) (by decide) (by decide))))) (by decide +kernel))
          (rv_addS (by rw [hq, Str.length_append]; show (1 + _) + _ ≤ _; exact sz_of (by omega)))) (by unfold cand; rw [hq, hm])) fun H11 s11 => ?_
        refine ⟨some (.int j), ?_, (s9.trans s10).trans s11⟩
        rw [ej, en]
        rfl
      · rw [inV_str, inV_str] at hb9
        have en : nstep (namesF c k) k nm j = nm := if_neg (by rw [Bool.not_eq_true]; exact hb9)
        refine ⟨some (.int j), ?_, s9.trans s10⟩
        rw [ej, en]
        rfl
    rintro σ' H9 ⟨o11, rfl, s9⟩
    refine s_app (s9 _ _ hp8) (ev_var rfl) (ev_var rfl) (by rw [List.length_map, names_len]; omega) fun H10 s10 => ?_
    refine ⟨some (.int k), some (.ref d), o8', some (.str ((List.range 78).foldl (nstep (namesF c k) k) (name1 ds))), o10', o11, rfl, Ex.mut ((S8.trans s9).trans s10) hp, ?_⟩
    rw [show namesF c (k + 1) = namesF c k ++ [nameN c (namesF c k) k] from rfl, List.map_append, hnm]
    exact upd_same
  · rintro σ H' ⟨o6, o7, o8, o9, o10, o11, rfl, S, hp'⟩
    exact s_ret (ev_var rfl) fun H5 s5 => q _ H5 ((S3.trans S).trans s5) ⟨p, rfl, sq_of (s5 _ _ hp')⟩
end
end SB

set_option Elab.async false
set_option linter.all false
set_option maxRecDepth 100000
namespace SB
open PySem L2 Evl
/-! ### expressions -/
inductive Tm where
  | num (i : Int) | bl (b : Bool) | var (x : Str) | nt (a : Tm) | bin (s : Str) (a b : Tm)
def Tm.data : Tm → PyData
  | .num i => .int i
  | .bl b => .bool b
  | .var x => .str x
  | .nt a => .tuple [.str "not", a.data]
  | .bin s a b => .tuple [.str s, a.data, b.data]
def kstr (k : Bool) : Str := if k then "int" else "bool"
def pairD (p : Str × Bool) : PyData := .tuple [.str p.1, .str (kstr p.2)]
def seenD (seen : List (Str × Bool)) : PyData := .list (seen.map pairD)
def limsE : List Int := [8, 10 ^ 9, 10 ^ 9, 60, 2000000001, 3]
def arS : List Str := ["+", "-", "*"]
def loS : List Str := ["and", "or"]
def cmS : List Str := ["<", "<=", "="]
def fitF (seen : List (Str × Bool)) (k : Bool) : List Str := (seen.filter fun p => p.2 == k).map (·.1)
def leafE (ds : List Int) (k : Bool) : Tm := if k then (if ds.getD 0 0 = 0 then .num (ds.getD 4 0 - 1000000000) else .num (ds.getD 3 0 - 20)) else .bl (decide (ds.getD 3 0 % 2 = 1))
def exprB (seen : List (Str × Bool)) (rec : Int → Bool → Tm) (deep : Bool) (c : Int) (k : Bool) : Tm :=
  let ds := drawsF c limsE
  let fit := fitF seen k
  if (decide (0 < (fit.length : Int)) && decide (ds.getD 0 0 % 2 = 1)) = true then .var (fit.getD (ds.getD 3 0 % (fit.length : Int)).toNat "")
  else if k = true then
    if (deep && decide (3 < ds.getD 0 0)) = true then .bin (arS.getD (ds.getD 5 0).toNat "") (rec (ds.getD 1 0) true) (rec (ds.getD 2 0) true) else leafE ds true
  else if (deep && decide (ds.getD 0 0 = 6)) = true then .nt (rec (ds.getD 1 0) false)
  else if (deep && decide (ds.getD 0 0 = 4)) = true then .bin (loS.getD (ds.getD 5 0 % 2).toNat "") (rec (ds.getD 1 0) false) (rec (ds.getD 2 0) false)
  else if (deep && decide (ds.getD 0 0 < 4)) = true then .bin (cmS.getD (ds.getD 5 0).toNat "") (rec (ds.getD 1 0) true) (rec (ds.getD 2 0) true)
  else leafE ds false
def exprF (seen : List (Str × Bool)) : Nat → Int → Bool → Tm
  | 0 => exprB seen (fun _ _ => .bl false) false
  | d + 1 => exprB seen (exprF seen d) true
theorem exprF_eq (seen : List (Str × Bool)) (d : Nat) (c : Int) (k : Bool) : exprF seen d c k = exprB seen (exprF seen (d - 1)) (decide (0 < (d : Int))) c k := by
  cases d with
  | zero => rfl
  | succ d =>
    have e : decide (0 < ((d + 1 : Nat) : Int)) = true := decide_eq_true (by omega)
    rw [e]
    rfl
/-! ### data read and made -/
section
variable {K : PySem.W.Frag} {σ : L2.St} {H : Hp} {te ta tb : TE} {P : VH} {v x y : V} {xs ys : List V} {tt : TT} {d : PyData} {ds : List PyData}
theorem ed_str {s : Str} (h : Ev te σ H (.str s)) : EvP te σ H (isD K (.str s)) := EvP.imp (Ev.p h) fun _ _ _ (z : _ = _) => by rw [z]; exact .str s
theorem ed_int {s : Int} (h : Ev te σ H (.int s)) : EvP te σ H (isD K (.int s)) := EvP.imp (Ev.p h) fun _ _ _ (z : _ = _) => by rw [z]; exact .int s
theorem ed_bl {s : Bool} (h : Ev te σ H (.bl s)) : EvP te σ H (isD K (.bool s)) := EvP.imp (Ev.p h) fun _ _ _ (z : _ = _) => by rw [z]; exact .bl s
theorem ad_nil : EvAP tNil σ H (fun vs H' => DpAll K H' vs []) := fun H1 _ _ q => q _ H1 (Evl.Ex.refl H1) .nil
theorem ad_cons {tr : TA} (h : EvP te σ H (isD K d)) (hr : EvAP tr σ H (fun vs H' => DpAll K H' vs ds)) : EvAP (tCons te tr) σ H (fun vs H' => DpAll K H' vs (d :: ds)) := fun H1 e _ q =>
  h H1 e _ fun v H2 e2 p => hr H2 (e.trans e2) _ fun r H3 e3 z => q _ H3 (e2.trans e3) (.cons (Dp.mono e3 p) z)
theorem DpAll.length {H : Hp} : ∀ {vs : List V} {ds : List PyData}, DpAll K H vs ds → vs.length = ds.length
  | _, _, .nil => rfl
  | _, _, .cons _ t => congrArg (· + 1) (DpAll.length t)
theorem ed_tup {ta : TA} (h : EvAP ta σ H (fun vs H' => DpAll K H' vs ds)) (hz : ds.length ≤ 100000) : EvP (tTup ta) σ H (isD K (.tuple ds)) := fun H1 e _ q =>
  h H1 e _ fun vs H2 e2 a => ⟨sz_of (by rw [DpAll.length a]; exact hz), fun p hp => q _ _ (e2.trans (Evl.Ex.new hp)) (.tup (st_of upd_same) (DpAll.mono (Evl.Ex.new hp) a))⟩
theorem DpAll.get {H : Hp} : ∀ {vs : List V} {ds : List PyData}, DpAll K H vs ds → ∀ (i : Nat) (x : V), vs[i]? = some x → ∃ d, ds[i]? = some d ∧ Dp K H x d
  | _, _, .nil, _, _, h => by simp at h
  | _, _, .cons a _, 0, _, h => by simp at h; subst h; exact ⟨_, rfl, a⟩
  | _, _, .cons _ t, i + 1, x, h => by
    obtain ⟨d, e, q⟩ := DpAll.get t i x (by simpa using h)
    exact ⟨d, by simpa using e, q⟩
end
/-- a comprehension over a list, told item by item -/
theorem given_list {α : Type} (d : α) (f : α → Bool) (g : α → V) : ∀ xs : List α, given xs.length (fun i => f (xs.getD i d)) (fun i => g (xs.getD i d)) = (xs.filter f).map g
  | [] => rfl
  | x :: r => by
    have ih := given_list d f g r
    unfold given at ih ⊢
    rw [List.length_cons, List.range_succ_eq_map, List.filter_cons]
    have e1 : ((List.range r.length).map Nat.succ).filter (fun i => f ((x :: r).getD i d)) = ((List.range r.length).filter (fun i => f (r.getD i d))).map Nat.succ := by
      rw [List.filter_map]
      rfl
    rw [e1]
    have e2 : (((List.range r.length).filter (fun i => f (r.getD i d))).map Nat.succ).map (fun i => g ((x :: r).getD i d)) = ((List.range r.length).filter (fun i => f (r.getD i d))).map (fun i => g (r.getD i d)) := by
      rw [List.map_map]
      rfl
    by_cases h : f x = true
    · have e3 : f ((x :: r).getD 0 d) = true := h
      rw [if_pos e3, List.map_cons, e2, ih, List.filter_cons, if_pos h]
      rfl
    · have e3 : ¬ f ((x :: r).getD 0 d) = true := h
      rw [if_neg e3, e2, ih, List.filter_cons, if_neg h]
theorem kstr_eq (a b : Bool) : decide (V.str (kstr a) = V.str (kstr b)) = (a == b) := by cases a <;> cases b <;> decide +kernel
def spExpr (K : PySem.W.Frag) (n : Nat) : Sp := fun vs H Q _ => ∃ (c : Int) (k : Bool) (seen : List (Str × Bool)) (d : Nat) (v : V), vs = [.int c, .str (kstr k), v, .int d] ∧ Dp K H v (seenD seen) ∧ seen.length ≤ 1000 ∧ d < n ∧
  ∀ v H2, Evl.Ex H H2 → Dp K H2 v (exprF seen d c k).data → Q v H2
theorem sp_expr {K : PySem.W.Frag} {H : Hp} {c : Int} {k : Bool} {seen : List (Str × Bool)} {d n : Nat} {z : Int} (hl : seen.length ≤ 1000) (hd : d < n) (hz : z = (d : Int)) :
    SpP (spExpr K n) (aCons (isV (.int c)) (aCons (isV (.str (kstr k))) (aCons (isD K (seenD seen)) (aCons (isV (.int z)) (fun vs _ => vs = []))))) H (isD K (exprF seen d c k).data) := by
  rintro vs H1 e ⟨v, r, rfl, ev, v2, r2, rfl, ev2, v3, r3, rfl, ev3, v4, r4, rfl, ev4, rfl⟩ Q q E
  obtain rfl : v = V.int c := ev
  obtain rfl : v2 = V.str (kstr k) := ev2
  obtain rfl : v4 = V.int z := ev4
  subst hz
  exact ⟨c, k, seen, d, v3, rfl, ev3, hl, hd, q⟩
theorem limsE_ok : ∀ l ∈ limsE, 0 < l ∧ l < 18446744073709551616 := by decide +kernel
section
variable {P : Program} {w : World} {K : PySem.W.Frag} {mg : Str → Option Value} {base : Heap}
abbrev s__law_expr : Stmt := topS 11
theorem sc__law_expr : FnScope ["cell", "kind", "seen", "depth", "draws", "fit", "sign", "pair"] ["cell", "kind", "seen", "depth"] (defScope s__law_expr) := ⟨rfl, rfl, rfl, by decide +kernel, rfl, by decide +kernel, by decide +kernel⟩
theorem ok__law_expr {n : Nat} {f : Addr} {fd : FuncData} (F : Fun K "_law_expr" "_law_expr" s__law_expr f fd) (T : Txt K mg) (F__law_draws : Fn P w K mg base 1 "_law_draws" ["cell", "limits"] (spDraws K))
    (F__law_expr : Fn P w K mg base (n + 1) "_law_expr" ["cell", "kind", "seen", "depth"] (spExpr K n)) :
    FnOk P w K mg base CX0 (n + 2) f fd ["cell", "kind", "seen", "depth"] (spExpr K (n + 1)) := by
  refine F.ok sc__law_expr (fun vs H Q E h => ?_) (fun cdv A outer s H vs Q E hr h => ?_)
  · obtain ⟨c, k, seen, d, v, rfl, _⟩ := h
    rfl
  obtain ⟨c, k, seen, d, vs, rfl, hS, hl, hd, q⟩ := h
  have nd := sc__law_expr.nd
  have hr__law_draws : Room 1 _ := hr.mono (by omega)
  have hr__law_expr := hr
  refine ⟨_, (pss_cons (ps_set (i := 4) nd rfl (by first | exact .inl rfl | exact .inr rfl) (pe_fn F__law_draws hr__law_draws (by rfl) (pa_cons (pv 0) (pa_cons (pe_lst (pa_cons pe_int (pa_cons (pe_op op_pow pe_int pe_int) (pa_cons (pe_op op_pow pe_int pe_int) (pa_cons pe_int (pa_cons pe_int (pa_cons pe_int pa_nil))))))) pa_nil))))
      (pss_cons (ps_setLc (i := 5) (own := [("pair", 7)]) (by rfl) nd rfl rfl (sw_true rfl rfl rfl (by decide +kernel)) (pi_list (pv 2)) (blkOk_by (own := [("pair", 7)]) (N := ["cell", "kind", "seen", "depth", "draws", "fit", "sign", "pair"]) (sc := defScope s__law_expr) (by decide +kernel)) (fun _ _ _ _ _ => (pg_name (i := 7) nd rfl (by first | exact .inl rfl | exact .inr rfl))) (fun _ _ _ _ _ => (pts_one (pt_cmpR op_eq (pe_ix (ixT_K K rfl) (pv 7) pe_int (fun _ _ => rfl)) (pv 1) (nomark _)))) (fun _ _ _ _ _ => (pe_ix (ixT_K K rfl) (pv 7) pe_int (fun _ _ => rfl))))
      (pss_cons (ps_if (PW.pt (pw_and (pt_cmpR op_gt (pe_callB c_len (by rfl) T.len_ (by decide +kernel) (pa_cons (pv 5) pa_nil)) pe_int (nomark _)) (pw_and1 (pt_cmpR op_eq (pe_op o_andM (pe_ix ix_list (pv 4) pe_int (fun _ _ => rfl)) pe_int) pe_int (nomark _))))) (pss_one (ps_ret (pe_ix ix_list (pv 5) (pe_op o_mod (pe_callTy c_int (by rfl) T.int_ (by decide +kernel) (pa_cons (pe_ix ix_list (pv 4) pe_int (fun _ _ => rfl)) pa_nil)) (pe_callB c_len (by rfl) T.len_ (by decide +kernel) (pa_cons (pv 5) pa_nil))) (fun _ _ => rfl)))) pss_nil)
      (pss_cons (ps_if (pt_cmpR op_eq (pv 1) pe_str (nomark _)) (pss_cons (ps_if (PW.pt (pw_and (pt_cmpR op_gt (pv 3) pe_int (nomark _)) (pw_and1 (pt_cmpR op_gt (pe_ix ix_list (pv 4) pe_int (fun _ _ => rfl)) pe_int (nomark _))))) (pss_cons (ps_set (i := 6) nd rfl (by first | exact .inl rfl | exact .inr rfl) (pe_ix ix_list (pe_lst (pa_cons pe_str (pa_cons pe_str (pa_cons pe_str pa_nil)))) (pe_ix ix_list (pv 4) pe_int (fun _ _ => rfl)) (fun _ _ => rfl)))
      (pss_one (ps_ret (pe_tup (pa_cons (pv 6) (pa_cons (pe_fn F__law_expr hr__law_expr (by rfl) (pa_cons (pe_ix ix_list (pv 4) pe_int (fun _ _ => rfl)) (pa_cons pe_str (pa_cons (pv 2) (pa_cons (pe_op op_sub (pv 3) pe_int) pa_nil))))) (pa_cons (pe_fn F__law_expr hr__law_expr (by rfl) (pa_cons (pe_ix ix_list (pv 4) pe_int (fun _ _ => rfl)) (pa_cons pe_str (pa_cons (pv 2) (pa_cons (pe_op op_sub (pv 3) pe_int) pa_nil))))) pa_nil))))))) pss_nil)
      (pss_cons (ps_if (pt_cmpR op_eq (pe_ix ix_list (pv 4) pe_int (fun _ _ => rfl)) pe_int (nomark _)) (pss_one (ps_ret (pe_op op_sub (pe_ix ix_list (pv 4) pe_int (fun _ _ => rfl)) pe_int))) pss_nil)
      (pss_one (ps_ret (pe_op op_sub (pe_ix ix_list (pv 4) pe_int (fun _ _ => rfl)) pe_int))))) pss_nil)
      (pss_cons (ps_if (PW.pt (pw_and (pt_cmpR op_gt (pv 3) pe_int (nomark _)) (pw_and1 (pt_cmpR op_eq (pe_ix ix_list (pv 4) pe_int (fun _ _ => rfl)) pe_int (nomark _))))) (pss_one (ps_ret (pe_tup (pa_cons pe_str (pa_cons (pe_fn F__law_expr hr__law_expr (by rfl) (pa_cons (pe_ix ix_list (pv 4) pe_int (fun _ _ => rfl)) (pa_cons pe_str (pa_cons (pv 2) (pa_cons (pe_op op_sub (pv 3) pe_int) pa_nil))))) pa_nil))))) pss_nil)
      (pss_cons (ps_if (PW.pt (pw_and (pt_cmpR op_gt (pv 3) pe_int (nomark _)) (pw_and1 (pt_cmpR op_eq (pe_ix ix_list (pv 4) pe_int (fun _ _ => rfl)) pe_int (nomark _))))) (pss_cons (ps_set (i := 6) nd rfl (by first | exact .inl rfl | exact .inr rfl) (pe_ix ix_list (pe_lst (pa_cons pe_str (pa_cons pe_str pa_nil))) (pe_op o_andM (pe_ix ix_list (pv 4) pe_int (fun _ _ => rfl)) pe_int) (fun _ _ => rfl)))
      (pss_one (ps_ret (pe_tup (pa_cons (pv 6) (pa_cons (pe_fn F__law_expr hr__law_expr (by rfl) (pa_cons (pe_ix ix_list (pv 4) pe_int (fun _ _ => rfl)) (pa_cons pe_str (pa_cons (pv 2) (pa_cons (pe_op op_sub (pv 3) pe_int) pa_nil))))) (pa_cons (pe_fn F__law_expr hr__law_expr (by rfl) (pa_cons (pe_ix ix_list (pv 4) pe_int (fun _ _ => rfl)) (pa_cons pe_str (pa_cons (pv 2) (pa_cons (pe_op op_sub (pv 3) pe_int) pa_nil))))) pa_nil))))))) pss_nil)
      (pss_cons (ps_if (PW.pt (pw_and (pt_cmpR op_gt (pv 3) pe_int (nomark _)) (pw_and1 (pt_cmpR op_lt (pe_ix ix_list (pv 4) pe_int (fun _ _ => rfl)) pe_int (nomark _))))) (pss_cons (ps_set (i := 6) nd rfl (by first | exact .inl rfl | exact .inr rfl) (pe_ix ix_list (pe_lst (pa_cons pe_str (pa_cons pe_str (pa_cons pe_str pa_nil)))) (pe_ix ix_list (pv 4) pe_int (fun _ _ => rfl)) (fun _ _ => rfl)))
      (pss_one (ps_ret (pe_tup (pa_cons (pv 6) (pa_cons (pe_fn F__law_expr hr__law_expr (by rfl) (pa_cons (pe_ix ix_list (pv 4) pe_int (fun _ _ => rfl)) (pa_cons pe_str (pa_cons (pv 2) (pa_cons (pe_op op_sub (pv 3) pe_int) pa_nil))))) (pa_cons (pe_fn F__law_expr hr__law_expr (by rfl) (pa_cons (pe_ix ix_list (pv 4) pe_int (fun _ _ => rfl)) (pa_cons pe_str (pa_cons (pv 2) (pa_cons (pe_op op_sub (pv 3) pe_int) pa_nil))))) pa_nil))))))) pss_nil)
      (pss_one (ps_ret (pe_cmpR op_eq (pe_op o_andM (pe_ix ix_list (pv 4) pe_int (fun _ _ => rfl)) pe_int) pe_int (nomark _))))))))))), ?_⟩
  refine qp_asg (ep_call (ap_cons mono_V (Ev.p (ev_var rfl)) (ap_cons mono_L (EvL.p (EvL.cast (ys := limsE.map V.int) (el_lst (ea_cons ev_c (ea_cons (ev_op ev_c ev_c (rv_I ⟨by decide, by decide, by decide⟩)) (ea_cons (ev_op ev_c ev_c (rv_I ⟨by decide, by decide, by decide⟩)) (ea_cons ev_c (ea_cons ev_c (ea_cons ev_c ea_nil)))))) (by decide)) (by rfl))) ap_nil)) (sp_draws (by decide) limsE_ok)) fun vd H1 s1 ⟨dp, ed, hD⟩ => ?_
  subst ed
  have hP := draws_ok (c := c) (ls := limsE) fun l h => (limsE_ok l h).1
  have hPl := hP.length
  have hlim : limsE.length = 6 := by decide
  have hb0 : 0 ≤ (drawsF c limsE).getD 0 0 ∧ (drawsF c limsE).getD 0 0 < 8 := paired_get hP 0 (by omega)
  have hb3 : 0 ≤ (drawsF c limsE).getD 3 0 ∧ (drawsF c limsE).getD 3 0 < 60 := paired_get hP 3 (by omega)
  have hb5 : 0 ≤ (drawsF c limsE).getD 5 0 ∧ (drawsF c limsE).getD 5 0 < 3 := paired_get hP 5 (by omega)
  have hq : ∀ v H2, Evl.Ex H H2 → Dp K H2 v (exprB seen (exprF seen (d - 1)) (decide (0 < (d : Int))) c k).data → Q v H2 := by
    rw [← exprF_eq]
    exact q
  unfold exprB at hq
  simp only at hq
  generalize hds : drawsF c limsE = ds at *
  rw [hlim] at hPl
  have at_d : ∀ z : Nat, z < 6 → atI (ds.map V.int) (z : Int) = some (.int (ds.getD z 0)) := fun z h1 => by
    have y := atI_int (xs := ds) (z := (z : Int)) (by omega) (by omega)
    rw [Int.toNat_natCast] at y
    exact y
  have at0 : atI (ds.map V.int) 0 = some (.int (ds.getD 0 0)) := at_d 0 (by decide)
  have at1 : atI (ds.map V.int) 1 = some (.int (ds.getD 1 0)) := at_d 1 (by decide)
  have at2 : atI (ds.map V.int) 2 = some (.int (ds.getD 2 0)) := at_d 2 (by decide)
  have at3 : atI (ds.map V.int) 3 = some (.int (ds.getD 3 0)) := at_d 3 (by decide)
  have at4 : atI (ds.map V.int) 4 = some (.int (ds.getD 4 0)) := at_d 4 (by decide)
  have at5 : atI (ds.map V.int) 5 = some (.int (ds.getD 5 0)) := at_d 5 (by decide)
  -- fit
  have hS1 : Dp K H1 vs (seenD seen) := Dp.mono s1 hS
  obtain ⟨a, xs, rfl, hsl, hall⟩ : ∃ a xs, vs = V.ref a ∧ SqL K H1 a xs ∧ DpAll K H1 xs (seen.map pairD) := by
    cases hS1 with
    | lst h1 h2 => exact ⟨_, _, rfl, h1, h2⟩
  have hxl : xs.length = seen.length := by rw [DpAll.length hall, List.length_map]
  have item : ∀ (i : Nat) (x : V), xs[i]? = some x → ∃ t, x = V.ref t ∧ SqT K H1 t [.str (seen.getD i ("", true)).1, .str (kstr (seen.getD i ("", true)).2)] := fun i x hx => by
    obtain ⟨dd, hd2, hp⟩ := DpAll.get hall i x hx
    rw [List.getElem?_map] at hd2
    have hi : i < seen.length := by rw [← hxl]; exact (List.getElem?_eq_some_iff.mp hx).1
    rw [List.getElem?_eq_getElem hi] at hd2
    obtain rfl : pairD seen[i] = dd := Option.some.inj hd2
    have eg : seen.getD i ("", true) = seen[i] := by rw [List.getD_eq_getElem?_getD, List.getElem?_eq_getElem hi]; rfl
    rw [eg]
    unfold pairD at hp
    cases hp with
    | tup h1 h2 =>
      cases h2 with
      | cons c1 c2 =>
        cases c2 with
        | cons c3 c4 =>
          cases c4
          cases c1
          cases c3
          exact ⟨_, rfl, h1⟩
  refine q_asgL (xs := (fitF seen k).map V.str) (EvL.cast (el_lcL (xs := xs) (fun i => (seen.getD i ("", true)).2 == k) (fun i => .str (seen.getD i ("", true)).1) (ev_var rfl) hsl (by omega) (fun _ => rfl)
    (fun i x H2 s2 hx => by
      obtain ⟨t, rfl, ht⟩ := item i x hx
      exact et_is (et_test (ev_op (ev_ixT (ev_var rfl) ev_c (ex_t s2 ht) rfl) (ev_var rfl) (rv_eq rfl))) (kstr_eq _ _))
    (fun i x H2 s2 hx _ => by
      obtain ⟨t, rfl, ht⟩ := item i x hx
      exact ev_ixT (ev_var rfl) ev_c (ex_t s2 ht) rfl)) (by
        rw [hxl, given_list ((("" : Str), true)) (fun p : Str × Bool => p.2 == k) (fun p => V.str p.1)]
        unfold fitF
        rw [List.map_map]
        rfl)) fun pf H2 _ s2 e2 => ?_
  have hlen : ((fitF seen k).map V.str).length = (fitF seen k).length := List.length_map _
  have hD2 := ex_l s2 hD
  have S2 : Evl.Ex H H2 := s1.trans s2
  generalize hfit : fitF seen k = fit at *
  -- a variable
  refine q_when (et_and (et_is (et_test (ev_op (ev_len (ev_var rfl) (sq_of e2)) ev_c rv_I0)) (by rw [hlen])) fun _ => et_is (et_test (ev_op (ev_op (ev_ixL (ev_var rfl) ev_c hD2 at0) ev_c rv_and1) ev_c (rv_eq rfl))) (b := decide (ds.getD 0 0 % 2 = 1)) (by
      rw [Bool.eq_iff_iff, decide_eq_true_eq, decide_eq_true_eq]
      exact ⟨fun h => by injection h, fun h => congrArg V.int h⟩)) (fun hb H3 s3 => ?_) (fun hb H3 s3 => ?_)
  · have hf := (Bool.and_eq_true_iff.mp hb).1
    have hf : (0 : Int) < (fit.length : Int) := of_decide_eq_true hf
    rw [if_pos hb] at hq
    refine s_ret (ev_ixL (ev_var rfl) (ev_op (ev_int (ev_ixL (ev_var rfl) ev_c (ex_l s3 hD2) at3)) (ev_is (ev_len (ev_var rfl) (sq_of (s3 _ _ e2))) (by rw [hlen])) (rv_I hf)) (sq_of (s3 _ _ e2)) (atI_str (Int.emod_nonneg _ (by omega)) (Int.emod_lt_of_pos _ hf))) fun H4 s4 => hq _ H4 ((S2.trans s3).trans s4) (.str _)
  rw [if_neg (by rw [Bool.not_eq_true]; exact hb)] at hq
  have S3 := S2.trans s3
  have hD3 := ex_l s3 hD2
  have hS3 : Dp K H3 (.ref a) (seenD seen) := Dp.mono S3 hS
  have hk : EvT (tTest (tOp rEq (tVar 1) (tC (.str "int")))) [some (.int c), some (.str (kstr k)), some (.ref a), some (.int d), some (.ref dp), some (.ref pf), none, none] H3 k := et_is (et_test (ev_op (ev_var rfl) ev_c (rv_eq rfl))) (by
    rw [show (.str "int" : V) = .str (kstr true) from rfl, kstr_eq]
    cases k <;> rfl)
  have deepT : ∀ {u : TT} {b : Bool} {H' : Hp}, EvT u [some (.int c), some (.str (kstr k)), some (.ref a), some (.int d), some (.ref dp), some (.ref pf), none, none] H' b →
      EvT (tAnd (tTest (tOp (rI0 fun i j => .bl (decide (j < i))) (tVar 3) (tC (.int 0)))) u) [some (.int c), some (.str (kstr k)), some (.ref a), some (.int d), some (.ref dp), some (.ref pf), none, none] H' (decide (0 < (d : Int)) && b) :=
    fun h => et_and (et_test (ev_op (ev_var rfl) ev_c rv_I0)) fun _ => h
  have eqI : ∀ (x y : Int), decide (V.int x = V.int y) = decide (x = y) := fun x y => by
    rw [Bool.eq_iff_iff, decide_eq_true_eq, decide_eq_true_eq]
    exact ⟨fun h => by injection h, fun h => congrArg V.int h⟩
  -- a part: the call
  have part : ∀ {σ : L2.St} {H' : Hp} {tc tk : TE} (z : Int) (kb : Bool), Evl.Ex H3 H' → 0 < d → σ[2]? = some (some (.ref a)) → σ[3]? = some (some (.int d)) → Ev tc σ H' (.int z) → Ev tk σ H' (.str (kstr kb)) →
      EvP (tCall (spExpr K n) [] E0 (tCons tc (tCons tk (tCons (tVar 2) (tCons (tOp (rI0 fun i j => .int (i - j)) (tVar 3) (tC (.int 1))) tNil))))) σ H' (isD K (exprF seen (d - 1) z kb).data) := fun {σ H' tc tk} z kb e h0 v2 v3 hz hkk =>
    ep_call (ap_cons mono_V (Ev.p hz) (ap_cons mono_V (Ev.p hkk) (ap_cons mono_D (ep_var v2 mono_D (Dp.mono e hS3)) (ap_cons mono_V (Ev.p (ev_op (ev_var v3) ev_c rv_I0)) ap_nil)))) (sp_expr hl (by omega) (by omega))
  refine q_when hk (fun hkb H4 s4 => ?_) (fun hkb H4 s4 => ?_)
  · subst hkb
    rw [if_pos rfl] at hq
    have hD4 := ex_l s4 hD3
    refine q_when (deepT (et_test (ev_op (ev_ixL (ev_var rfl) ev_c hD4 at0) ev_c rv_I0))) (fun hb H5 s5 => ?_) (fun hb H5 s5 => ?_)
    · rw [if_pos hb] at hq
      have h0 : 0 < d := by
        have z := of_decide_eq_true (Bool.and_eq_true_iff.mp hb).1
        omega
      have hD5 := ex_l s5 hD4
      refine q_asg (ev_ixN (xs := arS.map V.str) (el_lst (by repeat first | exact ea_nil | refine ea_cons ev_c ?_) (by decide)) (fun _ e => ev_ixL (ev_var rfl) ev_c (ex_l e hD5) at5) (atI_str hb5.1 hb5.2)) fun H6 s6 => ?_
      have hD6 := ex_l s6 hD5
      refine ep_ret (P := isD K (Tm.bin (arS.getD (ds.getD 5 0).toNat "") (exprF seen (d - 1) (ds.getD 1 0) true) (exprF seen (d - 1) (ds.getD 2 0) true)).data) (ed_tup (ad_cons (ed_str (ev_var rfl))
        (ad_cons (part (ds.getD 1 0) true ((s4.trans s5).trans s6) h0 rfl rfl (ev_ixL (ev_var rfl) ev_c hD6 at1) ev_c)
        (ad_cons (part (ds.getD 2 0) true ((s4.trans s5).trans s6) h0 rfl rfl (ev_ixL (ev_var rfl) ev_c hD6 at2) ev_c) ad_nil))) (Nat.le_of_ble_eq_true rfl)) fun v H7 s7 hv => hq v H7 ((((S3.trans s4).trans s5).trans s6).trans s7) hv
    · rw [if_neg (by rw [Bool.not_eq_true]; exact hb)] at hq
      have hD5 := ex_l s5 hD4
      unfold leafE at hq
      rw [if_pos rfl] at hq
      refine q_when (b := decide (ds.getD 0 0 = 0)) (et_is (et_test (ev_op (ev_ixL (ev_var rfl) ev_c hD5 at0) ev_c (rv_eq rfl))) (eqI _ _)) (fun hc H6 s6 => ?_) (fun hc H6 s6 => ?_)
      · rw [if_pos (of_decide_eq_true hc)] at hq
        exact s_ret (ev_op (ev_ixL (ev_var rfl) ev_c (ex_l s6 hD5) at4) ev_c rv_I0) fun H7 s7 => hq _ H7 ((((S3.trans s4).trans s5).trans s6).trans s7) (.int _)
      · rw [if_neg (of_decide_eq_false hc)] at hq
        exact s_ret (ev_op (ev_ixL (ev_var rfl) ev_c (ex_l s6 hD5) at3) ev_c rv_I0) fun H7 s7 => hq _ H7 ((((S3.trans s4).trans s5).trans s6).trans s7) (.int _)
  · subst hkb
    rw [if_neg Bool.false_ne_true] at hq
    have hD4 := ex_l s4 hD3
    refine q_when (deepT (et_is (et_test (ev_op (ev_ixL (ev_var rfl) ev_c hD4 at0) ev_c (rv_eq rfl))) (eqI _ _))) (fun hb H5 s5 => ?_) (fun hb H5 s5 => ?_)
    · rw [if_pos hb] at hq
      have h0 : 0 < d := by
        have z := of_decide_eq_true (Bool.and_eq_true_iff.mp hb).1
        omega
      have hD5 := ex_l s5 hD4
      exact ep_ret (P := isD K (Tm.nt (exprF seen (d - 1) (ds.getD 1 0) false)).data) (ed_tup (ad_cons (ed_str ev_c)
        (ad_cons (part (ds.getD 1 0) false (s4.trans s5) h0 rfl rfl (ev_ixL (ev_var rfl) ev_c hD5 at1) ev_c) ad_nil)) (Nat.le_of_ble_eq_true rfl)) fun v H7 s7 hv => hq v H7 (((S3.trans s4).trans s5).trans s7) hv
    rw [if_neg (by rw [Bool.not_eq_true]; exact hb)] at hq
    have hD5 := ex_l s5 hD4
    refine q_when (deepT (et_is (et_test (ev_op (ev_ixL (ev_var rfl) ev_c hD5 at0) ev_c (rv_eq rfl))) (eqI _ _))) (fun hb2 H6 s6 => ?_) (fun hb2 H6 s6 => ?_)
    · rw [if_pos hb2] at hq
      have h0 : 0 < d := by
        have z := of_decide_eq_true (Bool.and_eq_true_iff.mp hb2).1
        omega
      have hD6 := ex_l s6 hD5
      refine q_asg (ev_ixN (xs := loS.map V.str) (el_lst (by repeat first | exact ea_nil | refine ea_cons ev_c ?_) (by decide)) (fun _ e => ev_op (ev_ixL (ev_var rfl) ev_c (ex_l e hD6) at5) ev_c rv_and1) (atI_str (Int.emod_nonneg _ (by decide)) (by
        have z := Int.emod_lt_of_pos (ds.getD 5 0) (by decide : (0 : Int) < 2)
        exact z))) fun H7 s7 => ?_
      have hD7 := ex_l s7 hD6
      refine ep_ret (P := isD K (Tm.bin (loS.getD (ds.getD 5 0 % 2).toNat "") (exprF seen (d - 1) (ds.getD 1 0) false) (exprF seen (d - 1) (ds.getD 2 0) false)).data) (ed_tup (ad_cons (ed_str (ev_var rfl))
        (ad_cons (part (ds.getD 1 0) false (((s4.trans s5).trans s6).trans s7) h0 rfl rfl (ev_ixL (ev_var rfl) ev_c hD7 at1) ev_c)
        (ad_cons (part (ds.getD 2 0) false (((s4.trans s5).trans s6).trans s7) h0 rfl rfl (ev_ixL (ev_var rfl) ev_c hD7 at2) ev_c) ad_nil))) (Nat.le_of_ble_eq_true rfl)) fun v H8 s8 hv => hq v H8 (((((S3.trans s4).trans s5).trans s6).trans s7).trans s8) hv
    rw [if_neg (by rw [Bool.not_eq_true]; exact hb2)] at hq
    have hD6 := ex_l s6 hD5
    refine q_when (deepT (et_test (ev_op (ev_ixL (ev_var rfl) ev_c hD6 at0) ev_c rv_I0))) (fun hb3 H7 s7 => ?_) (fun hb3 H7 s7 => ?_)
    · rw [if_pos hb3] at hq
      have h0 : 0 < d := by
        have z := of_decide_eq_true (Bool.and_eq_true_iff.mp hb3).1
        omega
      have hD7 := ex_l s7 hD6
      refine q_asg (ev_ixN (xs := cmS.map V.str) (el_lst (by repeat first | exact ea_nil | refine ea_cons ev_c ?_) (by decide)) (fun _ e => ev_ixL (ev_var rfl) ev_c (ex_l e hD7) at5) (atI_str hb5.1 hb5.2)) fun H8 s8 => ?_
      have hD8 := ex_l s8 hD7
      refine ep_ret (P := isD K (Tm.bin (cmS.getD (ds.getD 5 0).toNat "") (exprF seen (d - 1) (ds.getD 1 0) true) (exprF seen (d - 1) (ds.getD 2 0) true)).data) (ed_tup (ad_cons (ed_str (ev_var rfl))
        (ad_cons (part (ds.getD 1 0) true ((((s4.trans s5).trans s6).trans s7).trans s8) h0 rfl rfl (ev_ixL (ev_var rfl) ev_c hD8 at1) ev_c)
        (ad_cons (part (ds.getD 2 0) true ((((s4.trans s5).trans s6).trans s7).trans s8) h0 rfl rfl (ev_ixL (ev_var rfl) ev_c hD8 at2) ev_c) ad_nil))) (Nat.le_of_ble_eq_true rfl)) fun v H9 s9 hv => hq v H9 ((((((S3.trans s4).trans s5).trans s6).trans s7).trans s8).trans s9) hv
    rw [if_neg (by rw [Bool.not_eq_true]; exact hb3)] at hq
    unfold leafE at hq
    rw [if_neg Bool.false_ne_true] at hq
    have hD7 := ex_l s7 hD6
    exact s_ret (ev_is (ev_op (ev_op (ev_ixL (ev_var rfl) ev_c hD7 at3) ev_c rv_and1) ev_c (rv_eq rfl)) (congrArg V.bl (eqI _ _))) fun H8 s8 => hq _ H8 (((((S3.trans s4).trans s5).trans s6).trans s7).trans s8) (.bl _)
end
end SB

set_option Elab.async false
set_option linter.all false
set_option maxRecDepth 100000
namespace SB
open PySem L2 Evl
/-! ### what an expression is worth -/
def binF (s : Str) : V → V → V
  | .int i, .int j => if s = "+" then .int (fit (i + j)) else if s = "-" then .int (fit (i - j)) else if s = "*" then .int (fit (i * j)) else if s = "<" then .bl (decide (i < j)) else if s = "<=" then .bl (decide (i ≤ j)) else .bl (decide (V.int i = V.int j))
  | .bl a, .bl b => if s = "and" then .bl (a && b) else .bl (a || b)
  | v, _ => v
theorem bin_ints (s : Str) (i j : Int) : binF s (.int i) (.int j) = if s = "+" then .int (fit (i + j)) else if s = "-" then .int (fit (i - j)) else if s = "*" then .int (fit (i * j)) else if s = "<" then .bl (decide (i < j)) else if s = "<=" then .bl (decide (i ≤ j)) else .bl (decide (V.int i = V.int j)) := rfl
theorem b_add (i j : Int) : binF "+" (.int i) (.int j) = .int (fit (i + j)) := by rw [bin_ints, if_pos rfl]
theorem b_sub (i j : Int) : binF "-" (.int i) (.int j) = .int (fit (i - j)) := by rw [bin_ints, if_neg (by decide +kernel), if_pos rfl]
theorem b_mul (i j : Int) : binF "*" (.int i) (.int j) = .int (fit (i * j)) := by rw [bin_ints, if_neg (by decide +kernel), if_neg (by decide +kernel), if_pos rfl]
theorem b_lt (i j : Int) : binF "<" (.int i) (.int j) = .bl (decide (i < j)) := by rw [bin_ints, if_neg (by decide +kernel), if_neg (by decide +kernel), if_neg (by decide +kernel), if_pos rfl]
theorem b_le (i j : Int) : binF "<=" (.int i) (.int j) = .bl (decide (i ≤ j)) := by rw [bin_ints, if_neg (by decide +kernel), if_neg (by decide +kernel), if_neg (by decide +kernel), if_neg (by decide +kernel), if_pos rfl]
theorem b_eq (i j : Int) : binF "=" (.int i) (.int j) = .bl (decide (V.int i = V.int j)) := by rw [bin_ints, if_neg (by decide +kernel), if_neg (by decide +kernel), if_neg (by decide +kernel), if_neg (by decide +kernel), if_neg (by decide +kernel)]
theorem bin_bls (s : Str) (a b : Bool) : binF s (.bl a) (.bl b) = if s = "and" then .bl (a && b) else .bl (a || b) := rfl
theorem b_and (a b : Bool) : binF "and" (.bl a) (.bl b) = .bl (a && b) := by rw [bin_bls, if_pos rfl]
theorem b_or (a b : Bool) : binF "or" (.bl a) (.bl b) = .bl (a || b) := by rw [bin_bls, if_neg (by decide +kernel)]
def worthF (kvs : List (Key × V)) : Tm → V
  | .num i => .int i
  | .bl b => .bl b
  | .var x => (valV kvs (.inr x)).getD .non
  | .nt a => (match worthF kvs a with | .bl b => .bl (!b) | v => v)
  | .bin s a b => binF s (worthF kvs a) (worthF kvs b)
def Bd (i : Int) : Prop := -4611686018427387904 < i ∧ i < 4611686018427387904
inductive Ok (kvs : List (Key × V)) : Bool → Nat → Tm → Prop where
  | num {n i} (h : Bd i) : Ok kvs true n (.num i)
  | bl {n b} : Ok kvs false n (.bl b)
  | varI {n x i} (h : valV kvs (.inr x) = some (.int i)) (b : Bd i) : Ok kvs true n (.var x)
  | varB {n x b} (h : valV kvs (.inr x) = some (.bl b)) : Ok kvs false n (.var x)
  | ar {n s a b} (h : s ∈ arS) (ha : Ok kvs true n a) (hb : Ok kvs true n b) : Ok kvs true (n + 1) (.bin s a b)
  | nt {n a} (ha : Ok kvs false n a) : Ok kvs false (n + 1) (.nt a)
  | lo {n s a b} (h : s ∈ loS) (ha : Ok kvs false n a) (hb : Ok kvs false n b) : Ok kvs false (n + 1) (.bin s a b)
  | cm {n s a b} (h : s ∈ cmS) (ha : Ok kvs true n a) (hb : Ok kvs true n b) : Ok kvs false (n + 1) (.bin s a b)
def IsK : Bool → V → Prop
  | true, v => ∃ i, v = .int i ∧ Bd i
  | false, v => ∃ b, v = .bl b
theorem fit_bd (i : Int) : Bd (fit i) := by
  have h1 := Int.emod_nonneg (i + 1000000000) (by decide : (2000000001 : Int) ≠ 0)
  have h2 := Int.emod_lt_of_pos (i + 1000000000) (by decide : (0 : Int) < 2000000001)
  unfold fit Bd
  omega
theorem ok_val {kvs : List (Key × V)} {k : Bool} {n : Nat} {t : Tm} (h : Ok kvs k n t) : IsK k (worthF kvs t) := by
  induction h with
  | num h => exact ⟨_, rfl, h⟩
  | bl => exact ⟨_, rfl⟩
  | varI h b => exact ⟨_, by unfold worthF; rw [h]; rfl, b⟩
  | varB h => exact ⟨_, by unfold worthF; rw [h]; rfl⟩
  | @ar n s a b h _ _ iha ihb =>
    obtain ⟨i, ei, _⟩ := iha
    obtain ⟨j, ej, _⟩ := ihb
    unfold worthF
    rw [ei, ej]
    simp only [arS, List.mem_cons, List.not_mem_nil, or_false] at h
    rcases h with rfl | rfl | rfl
    · exact ⟨_, b_add i j, fit_bd _⟩
    · exact ⟨_, b_sub i j, fit_bd _⟩
    · exact ⟨_, b_mul i j, fit_bd _⟩
  | nt _ iha =>
    obtain ⟨b, e⟩ := iha
    unfold worthF
    rw [e]
    exact ⟨_, rfl⟩
  | lo h _ _ iha ihb =>
    obtain ⟨i, ei⟩ := iha
    obtain ⟨j, ej⟩ := ihb
    unfold worthF
    rw [ei, ej, bin_bls]
    split <;> exact ⟨_, rfl⟩
  | @cm n s a b h _ _ iha ihb =>
    obtain ⟨i, ei, _⟩ := iha
    obtain ⟨j, ej, _⟩ := ihb
    unfold worthF
    rw [ei, ej]
    simp only [cmS, List.mem_cons, List.not_mem_nil, or_false] at h
    rcases h with rfl | rfl | rfl
    · exact ⟨_, b_lt i j⟩
    · exact ⟨_, b_le i j⟩
    · exact ⟨_, b_eq i j⟩
/-! ### more readings -/
theorem typ_int {K : PySem.W.Frag} {H : Hp} {i : Int} : TyX K H (.int i) (.type "int") := .base (.int i)
theorem ty_ref {K : PySem.W.Frag} {H : Hp} {a : Addr} {xs : List V} (h : SqT K H a xs) : TyX K H (.ref a) (.type "tuple") := by
  rcases h with (h | ⟨o, h⟩) | ⟨o, its, n, lk, c, _⟩
  · exact .base (.tup h)
  · exact .fTuple h
  · exact .kTuple lk c
section
variable {K : PySem.W.Frag} {σ : L2.St} {H : Hp} {te ta tb td ty : TE} {P : VH} {v x y : V} {xs ys : List V} {tt : TT} {tl th : TO} {D : Ends} {tz : TS}
theorem ev_isi {m n : String} {b : Bool} (h : Ev ta σ H x) (t : ∀ H1, Evl.Ex H H1 → TyX K H1 x (.type m)) (k : kitB m n = some b) : Ev (tCB (rIsi K) (tCons ta (tCons (tC (.ty n)) tNil))) σ H (.bl b) := fun H1 e Q q =>
  h H1 e _ fun H2 e2 => ⟨x, .ty n, .type m, .type n, b, rfl, .ty n, t H2 (e.trans e2), kit_ty k, q H2 e2⟩
theorem ev_dget {a : Addr} {kvs : List (Key × V)} {k : Key} (h : Ev td σ H (.ref a)) (hk : Ev ty σ H (kV k)) (hd : H a = some (.dK kvs)) (hv : valV kvs k = some v) : Ev (tDGet td ty) σ H v := fun H1 e Q q =>
  h H1 e _ fun H2 e2 => hk H2 (e.trans e2) _ fun H3 e3 => ⟨a, v, rfl, by rw [← hv]; exact DGet.k (((e.trans e2).trans e3) _ _ hd), q H3 (e2.trans e3)⟩
theorem eu_slT {a : Addr} {lo hi : Option Int} (h : Ev te σ H (.ref a)) (h1 : EvO tl σ H lo) (h2 : EvO th σ H hi) (hs : SqT K H a xs) (hn : ¬ (HT.sIx xs.length 0 lo = 0 ∧ HT.sIx xs.length xs.length hi = xs.length)) : EvU (tSl (rSlT K) te tl th) σ H (cutV xs lo hi) := fun H1 e _ q =>
  h H1 e _ fun H2 e2 => h1 H2 (e.trans e2) _ fun H3 e3 => h2 H3 ((e.trans e2).trans e3) _ fun H4 e4 =>
    ⟨a, xs, rfl, ex_t (((e.trans e2).trans e3).trans e4) hs, hn, fun p hp => q p _ (fresh_back ((e2.trans e3).trans e4) hp) (((e2.trans e3).trans e4).trans (Evl.Ex.new hp)) upd_same⟩
/-- a comprehension over a new tuple -/
theorem el_lcNU {xs : List V} {tl : TE} {j : Nat} {vs : List Nat} {t : TT} (f : Nat → Bool) (v : Nat → V) (h : EvU tl σ H xs) (hz : xs.length ≤ 40000) (hw : ∀ x, wipe ((wipe σ vs).set j (some x)) vs = wipe σ vs)
    (ht : ∀ (i : Nat) (x : V) H1, Evl.Ex H H1 → xs[i]? = some x → EvT t ((wipe σ vs).set j (some x)) H1 (f i)) (he : ∀ (i : Nat) (x : V) H1, Evl.Ex H H1 → xs[i]? = some x → f i = true → Ev te ((wipe σ vs).set j (some x)) H1 (v i)) :
    EvL (tLc (iTup K tl) (gName j) t te vs) σ H (given xs.length f v) := fun H0 e Q q => h H0 e _ fun a H1 ha e1 hx => ⟨a, rfl, ⟨xs, st_of hx⟩, fun Dl hD =>
  lc_tup (xs := xs) (Cw H1 f v Dl) ⟨hD, Evl.Ex.new hD, upd_same⟩ (fun i H' _ p => st_of (p.2.1 a _ hx)) (fun i x H' hi p => ⟨hw x, cw_turn p (by have := (List.getElem?_eq_some_iff.mp hi).1; omega) (ht i x H1 (e.trans e1) hi) (fun hf => he i x H1 (e.trans e1) hi hf)⟩)
    (fun H' p => q Dl H' (fresh_back e1 p.1) (e1.trans p.2.1) p.2.2)⟩
theorem q_unl2 {i j l : Nat} {p : Addr} (hv : σ[i]? = some (some (.ref p))) (hs : SqL K H p [x, y]) (k : tz D ((σ.set j (some x)).set l (some y)) H) : tSeq (tAsg (tVar i) (gUnl K 2 (gCons (gName j) (gCons (gName l) gNil)))) tz D σ H :=
  ⟨_, hv, p, [x, y], rfl, hs, rfl, x, [y], rfl, y, [], rfl, rfl, k⟩
theorem m_yes {s : Str} {tb : TS} {tr : V → TS} (h : tb D σ H) : tVal s tb tr (.str s) D σ H := ⟨rfl, by rw [decide_eq_true rfl]; exact iteT h⟩
theorem m_no {s z : Str} {tb : TS} {tr : V → TS} (n : z ≠ s) (h : tr (.str z) D σ H) : tVal s tb tr (.str z) D σ H := ⟨rfl, by
  rw [decide_eq_false (fun e => n (V.str.inj e))]
  exact iteF h⟩
theorem q_match {tc : V → TS} (h : Ev te σ H v) (k : ∀ H1, Evl.Ex H H1 → tc v { D with nx := tz D } σ H1) : tSeq (tMatch te tc) tz D σ H := h H (Evl.Ex.refl H) _ k
def EvPr (trs : List (TE × TE)) (σ : L2.St) (H : Hp) (kvs : List (Key × V)) : Prop := ∀ H1, Evl.Ex H H1 → ∀ Q : List (V × V) → Hp → Prop, (∀ H2, Evl.Ex H1 H2 → Q (kvs.map fun kv => (kV kv.1, kv.2)) H2) → tPairs trs σ H1 Q
theorem pr_nil : EvPr [] σ H [] := fun H1 _ _ q => q H1 (Evl.Ex.refl H1)
theorem pr_cons {trs : List (TE × TE)} {kvs : List (Key × V)} {k : Key} (hk : Ev ta σ H (kV k)) (hv : Ev tb σ H v) (hr : EvPr trs σ H kvs) : EvPr ((ta, tb) :: trs) σ H ((k, v) :: kvs) := fun H1 e _ q =>
  hk H1 e _ fun H2 e2 => hv H2 (e.trans e2) _ fun H3 e3 => hr H3 ((e.trans e2).trans e3) _ fun H4 e4 => q H4 ((e2.trans e3).trans e4)
theorem ev_dispGet {trs : List (TE × TE)} {kvs : List (Key × V)} {k : Key} (hp : EvPr trs σ H kvs) (hk : ∀ H1, Evl.Ex H H1 → Ev ty σ H1 (kV k)) (hl : kvs.length ≤ 15) (hv : valV (mergeK [] kvs) k = some v) : Ev (tDGet (tDisp trs) ty) σ H v := fun H1 e Q q p hp0 =>
  hp _ (e.trans (Evl.Ex.new hp0)) _ fun H2 e2 => ⟨e2 _ _ upd_same, kvs, rfl, hl, by
    have E1 : Evl.Ex H1 (upd H2 p (.dK (mergeK [] kvs))) := Evl.Ex.mut ((Evl.Ex.new hp0).trans e2) hp0
    refine hk _ (e.trans E1) _ (Evl.Ex.refl _) _ fun H3 e3 => ⟨p, v, rfl, by rw [← hv]; exact DGet.k (e3 _ _ upd_same), q H3 (E1.trans e3)⟩⟩
end
/-! ### the specs -/
inductive AppOk : Str → List V → V → Prop where
  | nt (b : Bool) : AppOk "not" [.bl b] (.bl !b)
  | ar {s : Str} {i j : Int} (h : s ∈ arS) (hi : Bd i) (hj : Bd j) : AppOk s [.int i, .int j] (binF s (.int i) (.int j))
  | lo {s : Str} {i j : Bool} (h : s ∈ loS) : AppOk s [.bl i, .bl j] (binF s (.bl i) (.bl j))
  | cm {s : Str} {i j : Int} (h : s ∈ cmS) : AppOk s [.int i, .int j] (binF s (.int i) (.int j))
def spApp (K : PySem.W.Frag) : Sp := fun vs H Q _ => ∃ (s : Str) (p : Addr) (ws : List V) (r : V), vs = [.str s, .ref p] ∧ SqL K H p ws ∧ AppOk s ws r ∧ ∀ H2, Evl.Ex H H2 → Q r H2
theorem sp_app {K : PySem.W.Frag} {H : Hp} {s : Str} {ws : List V} {r : V} (h : AppOk s ws r) : SpP (spApp K) (aCons (isV (.str s)) (aCons (isL K ws) (fun vs _ => vs = []))) H (isV r) := by
  rintro vs H1 e ⟨v, r0, rfl, ev, v2, r2, rfl, ⟨a, rfl, hS⟩, rfl⟩ Q q E
  obtain rfl : v = V.str s := ev
  exact ⟨s, a, ws, r, rfl, hS, h, fun H2 e2 => q _ H2 e2 rfl⟩
theorem sp_fit {H : Hp} {n : Int} : SpP spFit (aCons (isV (.int n)) (fun vs _ => vs = [])) H (isV (.int (fit n))) := by
  rintro vs H1 e ⟨v, r0, rfl, ev, rfl⟩ Q q E
  obtain rfl : v = V.int n := ev
  exact ⟨n, rfl, q _ H1 (Evl.Ex.refl _) rfl⟩
def spVal (K : PySem.W.Frag) (n : Nat) : Sp := fun vs H Q _ => ∃ (v : V) (dv : Addr) (kvs : List (Key × V)) (t : Tm) (k : Bool) (m : Nat), vs = [v, .ref dv] ∧ Dp K H v t.data ∧ H dv = some (.dK kvs) ∧ SB.Ok kvs k m t ∧ m < n ∧
  ∀ H2, Evl.Ex H H2 → Q (worthF kvs t) H2
def isDct (kvs : List (Key × V)) : VH := fun v H => ∃ p, v = .ref p ∧ H p = some (.dK kvs)
theorem mono_Dct {kvs : List (Key × V)} : Mono (isDct kvs) := fun _ _ _ e ⟨p, h, q⟩ => ⟨p, h, e _ _ q⟩
theorem sp_val {K : PySem.W.Frag} {H : Hp} {kvs : List (Key × V)} {t : Tm} {k : Bool} {m n : Nat} (h : SB.Ok kvs k m t) (hm : m < n) :
    SpP (spVal K n) (aCons (isD K t.data) (aCons (isDct kvs) (fun vs _ => vs = []))) H (isV (worthF kvs t)) := by
  rintro vs H1 e ⟨v, r0, rfl, ev, v2, r2, rfl, ⟨a, rfl, hS⟩, rfl⟩ Q q E
  exact ⟨v, a, kvs, t, k, m, rfl, ev, hS, h, hm, fun H2 e2 => q _ H2 e2 rfl⟩
section
variable {P : Program} {w : World} {K : PySem.W.Frag} {mg : Str → Option Value} {base : Heap}
abbrev s_applied : Stmt := topS 5
theorem sc_applied : FnScope ["sign", "parts", "first", "second"] ["sign", "parts"] (defScope s_applied) := ⟨rfl, rfl, rfl, by decide +kernel, rfl, by decide +kernel, by decide +kernel⟩
theorem ok_applied {f : Addr} {fd : FuncData} (F : Fun K "applied" "applied" s_applied f fd) (F_fitted : Fn P w K mg base 1 "fitted" ["number"] spFit) : FnOk P w K mg base CX0 2 f fd ["sign", "parts"] (spApp K) := by
  refine F.ok sc_applied (fun vs H Q E h => ?_) (fun cdv A outer s H vs Q E hr h => ?_)
  · obtain ⟨s, p, ws, r, rfl, _⟩ := h
    rfl
  obtain ⟨sg, p, ws, r, rfl, hS, hok, q⟩ := h
  have nd := sc_applied.nd
  have hr_fitted := hr
  refine ⟨_, (pss_cons (ps_if (pt_cmpR op_eq (pv 0) pe_str (nomark _)) (pss_one (ps_ret (pe_not (pe_ix ix_list (pv 1) pe_int (fun _ _ => rfl))))) pss_nil)
      (pss_cons (ps_asg (pv 1) (pg_unl rfl (pgs_cons (pg_name (i := 2) nd rfl (by first | exact .inl rfl | exact .inr rfl)) (pgs_cons (pg_name (i := 3) nd rfl (by first | exact .inl rfl | exact .inr rfl)) pgs_nil))))
      (pss_cons (ps_match (pv 0) (pc_str (pss_one (ps_ret (pe_fn F_fitted hr_fitted (by rfl) (pa_cons (pe_op op_add (pv 2) (pv 3)) pa_nil)))) (pc_str (pss_one (ps_ret (pe_fn F_fitted hr_fitted (by rfl) (pa_cons (pe_op op_sub (pv 2) (pv 3)) pa_nil)))) (pc_str (pss_one (ps_ret (pe_fn F_fitted hr_fitted (by rfl) (pa_cons (pe_op op_mul (pv 2) (pv 3)) pa_nil)))) (pc_str (pss_one (ps_ret (pe_cmpR op_lt (pv 2) (pv 3) (nomark _)))) (pc_str (pss_one (ps_ret (pe_cmpR op_le (pv 2) (pv 3) (nomark _)))) (pc_str (pss_one (ps_ret (pe_cmpR op_eq (pv 2) (pv 3) (nomark _)))) (pc_str (pss_one (ps_ret (pe_and (pv 2) (pe_one (pv 3))))) pc_nil))))))))
      (pss_one (ps_ret (pe_or (pv 2) (pe_one (pv 3)))))))), ?_⟩
  have eqS : ∀ (x y : Str), decide (V.str x = V.str y) = decide (x = y) := fun x y => by
    rw [Bool.eq_iff_iff, decide_eq_true_eq, decide_eq_true_eq]
    exact ⟨fun h => by injection h, fun h => congrArg V.str h⟩
  have mulB : ∀ {i j : Int}, Bd i → CMul i j := fun h => .inl ⟨by have := h.1; omega, by have := h.2; omega⟩
  cases hok with
  | nt b =>
    refine q_when (b := true) (et_is (et_test (ev_op (ev_var rfl) ev_c (rv_eq rfl))) (by decide +kernel)) (fun _ H1 s1 => ?_) (fun h => by cases h)
    exact s_ret (ev_notV (ev_ixL (ev_var rfl) ev_c (ex_l s1 hS) rfl)) fun H2 s2 => q H2 (s1.trans s2)
  | @ar s i j h hi hj =>
    simp only [arS, List.mem_cons, List.not_mem_nil, or_false] at h
    rcases h with rfl | rfl | rfl
    all_goals (
      refine q_when (b := false) (et_is (et_test (ev_op (ev_var rfl) ev_c (rv_eq rfl))) (by decide +kernel)) (fun h => by cases h) (fun _ H1 s1 => ?_)
      refine q_unl2 rfl (ex_l s1 hS) ?_
      refine q_match (ev_var rfl) fun H2 s2 => ?_)
    · rw [b_add] at q
      refine m_yes ?_
      exact ep_ret (ep_call (ap_cons mono_V (Ev.p (ev_op (ev_var rfl) (ev_var rfl) rv_I0)) ap_nil) sp_fit) fun v H3 s3 hv => by
        rw [show v = _ from hv]
        exact q H3 ((s1.trans s2).trans s3)
    · rw [b_sub] at q
      refine m_no (by decide +kernel) (m_yes ?_)
      exact ep_ret (ep_call (ap_cons mono_V (Ev.p (ev_op (ev_var rfl) (ev_var rfl) rv_I0)) ap_nil) sp_fit) fun v H3 s3 hv => by
        rw [show v = _ from hv]
        exact q H3 ((s1.trans s2).trans s3)
    · rw [b_mul] at q
      refine m_no (by decide +kernel) (m_no (by decide +kernel) (m_yes ?_))
      exact ep_ret (ep_call (ap_cons mono_V (Ev.p (ev_op (ev_var rfl) (ev_var rfl) (rv_I (mulB hi)))) ap_nil) sp_fit) fun v H3 s3 hv => by
        rw [show v = _ from hv]
        exact q H3 ((s1.trans s2).trans s3)
  | @lo s i j h =>
    simp only [loS, List.mem_cons, List.not_mem_nil, or_false] at h
    rcases h with rfl | rfl
    all_goals (
      refine q_when (b := false) (et_is (et_test (ev_op (ev_var rfl) ev_c (rv_eq rfl))) (by decide +kernel)) (fun h => by cases h) (fun _ H1 s1 => ?_)
      refine q_unl2 rfl (ex_l s1 hS) ?_
      refine q_match (ev_var rfl) fun H2 s2 => ?_)
    · rw [b_and] at q
      refine m_no (by decide +kernel) (m_no (by decide +kernel) (m_no (by decide +kernel) (m_no (by decide +kernel) (m_no (by decide +kernel) (m_no (by decide +kernel) (m_yes ?_))))))
      exact s_ret (ev_andV (ev_var rfl) fun _ => ev_var rfl) fun H3 s3 => q H3 ((s1.trans s2).trans s3)
    · rw [b_or] at q
      refine m_no (by decide +kernel) (m_no (by decide +kernel) (m_no (by decide +kernel) (m_no (by decide +kernel) (m_no (by decide +kernel) (m_no (by decide +kernel) (m_no (by decide +kernel) ?_))))))
      exact s_ret (ev_orV (ev_var rfl) fun _ => ev_var rfl) fun H3 s3 => q H3 ((s1.trans s2).trans s3)
  | @cm s i j h =>
    simp only [cmS, List.mem_cons, List.not_mem_nil, or_false] at h
    rcases h with rfl | rfl | rfl
    all_goals (
      refine q_when (b := false) (et_is (et_test (ev_op (ev_var rfl) ev_c (rv_eq rfl))) (by decide +kernel)) (fun h => by cases h) (fun _ H1 s1 => ?_)
      refine q_unl2 rfl (ex_l s1 hS) ?_
      refine q_match (ev_var rfl) fun H2 s2 => ?_)
    · rw [b_lt] at q
      refine m_no (by decide +kernel) (m_no (by decide +kernel) (m_no (by decide +kernel) (m_yes ?_)))
      exact s_ret (ev_op (ev_var rfl) (ev_var rfl) rv_I0) fun H3 s3 => q H3 ((s1.trans s2).trans s3)
    · rw [b_le] at q
      refine m_no (by decide +kernel) (m_no (by decide +kernel) (m_no (by decide +kernel) (m_no (by decide +kernel) (m_yes ?_))))
      exact s_ret (ev_op (ev_var rfl) (ev_var rfl) rv_I0) fun H3 s3 => q H3 ((s1.trans s2).trans s3)
    · rw [b_eq] at q
      refine m_no (by decide +kernel) (m_no (by decide +kernel) (m_no (by decide +kernel) (m_no (by decide +kernel) (m_no (by decide +kernel) (m_yes ?_)))))
      exact s_ret (ev_op (ev_var rfl) (ev_var rfl) (rv_eq rfl)) fun H3 s3 => q H3 ((s1.trans s2).trans s3)
/-! ### value_of -/
abbrev s_value_of : Stmt := topS 4
theorem sc_value_of : FnScope ["expression", "values", "parts", "part"] ["expression", "values"] (defScope s_value_of) := ⟨rfl, rfl, rfl, by decide +kernel, rfl, by decide +kernel, by decide +kernel⟩
theorem ok_value_of {n : Nat} {f : Addr} {fd : FuncData} (F : Fun K "value_of" "value_of" s_value_of f fd) (T : Txt K mg) (F_applied : Fn P w K mg base 2 "applied" ["sign", "parts"] (spApp K))
    (F_value_of : Fn P w K mg base (n + 2) "value_of" ["expression", "values"] (spVal K n)) : FnOk P w K mg base CX0 (n + 3) f fd ["expression", "values"] (spVal K (n + 1)) := by
  refine F.ok sc_value_of (fun vs H Q E h => ?_) (fun cdv A outer s H vs Q E hr h => ?_)
  · obtain ⟨v, dv, kvs, t, k, m, rfl, _⟩ := h
    rfl
  obtain ⟨v, dv, kvs, t, k, m, rfl, hv, hd, hok, hm, q⟩ := h
  have nd := sc_value_of.nd
  have hr_applied : Room 2 _ := hr.mono (by omega)
  have hr_value_of := hr
  refine ⟨_, (pss_cons (ps_if (pt_val (pe_callB isi1 (by rfl) T.isinstance_ (by decide +kernel) (pa_cons (pv 0) (pa_cons (pe_bltn (v := .ty "str") (u := .type "str") (by rfl) T.str_ (by decide +kernel) rfl) pa_nil)))) (pss_one (ps_ret (pe_dget (hu_of hr) (pv 1) (pv 0) (fun _ _ => rfl)))) pss_nil)
      (pss_cons (ps_if (pt_not (pt_val (pe_callB isi1 (by rfl) T.isinstance_ (by decide +kernel) (pa_cons (pv 0) (pa_cons (pe_bltn (v := .ty "tuple") (u := .type "tuple") (by rfl) T.tuple_ (by decide +kernel) rfl) pa_nil))))) (pss_one (ps_ret (pv 0))) pss_nil)
      (pss_cons (ps_setLc (i := 2) (own := [("part", 3)]) (tt := tYes) (by rfl) nd rfl rfl (sw_true rfl rfl rfl (by decide +kernel)) (pi_tup (pe_slice sl_tup (pv 0) (po_some pe_int) po_none)) (blkOk_by (own := [("part", 3)]) (N := ["expression", "values", "parts", "part"]) (sc := defScope s_value_of) (by decide +kernel)) (fun _ _ _ _ _ => (pg_name (i := 3) nd rfl (by first | exact .inl rfl | exact .inr rfl))) (fun _ _ _ _ _ => pts_nil) (fun _ _ _ _ _ => (pe_fn F_value_of hr_value_of (by rfl) (pa_cons (pv 3) (pa_cons (pv 1) pa_nil)))))
      (pss_one (ps_ret (pe_fn F_applied hr_applied (by rfl) (pa_cons (pe_ix ix_tup (pv 0) pe_int (fun _ _ => rfl)) (pa_cons (pv 2) pa_nil)))))))), ?_⟩
  cases t with
  | num i =>
    have hv' : v = .int i := by cases hv; rfl
    subst hv'
    refine q_when (b := false) (et_B (ev_isi (ev_var rfl) (fun _ _ => .base (.int i)) (by decide +kernel))) (fun h => by cases h) (fun _ H1 s1 => ?_)
    refine q_when (b := true) (et_not (a := false) (et_B (ev_isi (ev_var rfl) (fun _ _ => .base (.int i)) (by decide +kernel)))) (fun _ H2 s2 => ?_) (fun h => by cases h)
    exact s_ret (ev_var rfl) fun H3 s3 => q H3 ((s1.trans s2).trans s3)
  | bl b =>
    have hv' : v = .bl b := by cases hv; rfl
    subst hv'
    refine q_when (b := false) (et_B (ev_isi (ev_var rfl) (fun _ _ => .base (.bl b)) (by decide +kernel))) (fun h => by cases h) (fun _ H1 s1 => ?_)
    refine q_when (b := true) (et_not (a := false) (et_B (ev_isi (ev_var rfl) (fun _ _ => .base (.bl b)) (by decide +kernel)))) (fun _ H2 s2 => ?_) (fun h => by cases h)
    exact s_ret (ev_var rfl) fun H3 s3 => q H3 ((s1.trans s2).trans s3)
  | var x =>
    have hv' : v = .str x := by cases hv; rfl
    subst hv'
    refine q_when (b := true) (et_B (ev_isi (ev_var rfl) (fun _ _ => .base (.str x)) (by decide +kernel))) (fun _ H1 s1 => ?_) (fun h => by cases h)
    have hx : ∃ z, valV kvs (.inr x) = some z ∧ worthF kvs (.var x) = z := by
      cases hok with
      | varI h b => exact ⟨_, h, by unfold worthF; rw [h]; rfl⟩
      | varB h => exact ⟨_, h, by unfold worthF; rw [h]; rfl⟩
    obtain ⟨z, hz, ez⟩ := hx
    rw [ez] at q
    exact s_ret (ev_dget (k := .inr x) (ev_var rfl) (ev_var rfl) (s1 _ _ hd) hz) fun H2 s2 => q H2 (s1.trans s2)
  | nt a =>
    obtain ⟨p, va, rfl, hT, ha⟩ : ∃ p va, v = V.ref p ∧ SqT K H p [.str "not", va] ∧ Dp K H va a.data := by
      cases hv with
      | tup h1 h2 =>
        cases h2 with
        | cons c1 c2 =>
          cases c2 with
          | cons c3 c4 =>
            cases c4
            cases c1
            exact ⟨_, _, rfl, h1, c3⟩
    obtain ⟨m', hm', hoka⟩ : ∃ m', m' + 1 = m ∧ SB.Ok kvs false m' a := by
      cases hok with
      | nt h => exact ⟨_, rfl, h⟩
    obtain ⟨wa, ewa⟩ := ok_val hoka
    refine q_when (b := false) (et_B (ev_isi (ev_var rfl) (fun _ e => ty_ref (ex_t e hT)) (by decide +kernel))) (fun h => by cases h) (fun _ H1 s1 => ?_)
    refine q_when (b := false) (et_not (a := true) (et_B (ev_isi (ev_var rfl) (fun _ e => ty_ref (ex_t (s1.trans e) hT)) (by decide +kernel)))) (fun h => by cases h) (fun _ H2 s2 => ?_)
    have S2 := s1.trans s2
    refine q_asgL (xs := [worthF kvs a]) (EvL.cast (el_lcNU (K := K) (xs := [va]) (fun _ => true) (fun i => [worthF kvs a].getD i .non) (eu_slT (ev_var rfl) (eo_some ev_c) eo_none (ex_t S2 hT) (by show ¬ (1 = 0 ∧ 2 = 2); omega)) (by show 1 ≤ 40000; decide) (fun _ => rfl) (fun _ _ _ _ _ => et_yes) (fun i x H3 s3 hx _ => ?_)) rfl) fun pp H3 _ s3 e3 => ?_
    · obtain ⟨rfl, rfl⟩ : i = 0 ∧ x = va := by
        cases i with
        | zero => exact ⟨rfl, (Option.some.inj hx).symm⟩
        | succ i => cases hx
      exact EvP.val (ep_call (ap_cons mono_D (ep_var rfl mono_D (Dp.mono (S2.trans s3) ha)) (ap_cons mono_Dct (ep_var rfl mono_Dct ⟨dv, rfl, (S2.trans s3) _ _ hd⟩) ap_nil)) (sp_val hoka (by omega)))
    have hw : worthF kvs (.nt a) = .bl (!wa) := by
      unfold worthF
      rw [ewa]
    rw [hw] at q
    rw [ewa] at e3
    exact ep_ret (ep_call (ap_cons mono_V (Ev.p (ev_ixT (ev_var rfl) ev_c (ex_t (S2.trans s3) hT) rfl)) (ap_cons mono_L (ep_var rfl mono_L ⟨pp, rfl, sq_of e3⟩) ap_nil)) (sp_app (.nt wa))) fun r H4 s4 hr4 => by
      rw [show r = _ from hr4]
      exact q H4 ((S2.trans s3).trans s4)
  | bin sg a b =>
    obtain ⟨p, va, vb, rfl, hT, ha, hb⟩ : ∃ p va vb, v = V.ref p ∧ SqT K H p [.str sg, va, vb] ∧ Dp K H va a.data ∧ Dp K H vb b.data := by
      cases hv with
      | tup h1 h2 =>
        cases h2 with
        | cons c1 c2 =>
          cases c2 with
          | cons c3 c4 =>
            cases c4 with
            | cons c5 c6 =>
              cases c6
              cases c1
              exact ⟨_, _, _, rfl, h1, c3, c5⟩
    obtain ⟨m', ka, hm', hoka, hokb, happ⟩ : ∃ m' ka, m' + 1 = m ∧ SB.Ok kvs ka m' a ∧ SB.Ok kvs ka m' b ∧ AppOk sg [worthF kvs a, worthF kvs b] (worthF kvs (.bin sg a b)) := by
      cases hok with
      | ar h h1 h2 =>
        obtain ⟨i, ei, bi⟩ := ok_val h1
        obtain ⟨j, ej, bj⟩ := ok_val h2
        refine ⟨_, _, rfl, h1, h2, ?_⟩
        rw [show worthF kvs (.bin sg a b) = binF sg (worthF kvs a) (worthF kvs b) from rfl, ei, ej]
        exact .ar h bi bj
      | lo h h1 h2 =>
        obtain ⟨i, ei⟩ := ok_val h1
        obtain ⟨j, ej⟩ := ok_val h2
        refine ⟨_, _, rfl, h1, h2, ?_⟩
        rw [show worthF kvs (.bin sg a b) = binF sg (worthF kvs a) (worthF kvs b) from rfl, ei, ej]
        exact .lo h
      | cm h h1 h2 =>
        obtain ⟨i, ei, _⟩ := ok_val h1
        obtain ⟨j, ej, _⟩ := ok_val h2
        refine ⟨_, _, rfl, h1, h2, ?_⟩
        rw [show worthF kvs (.bin sg a b) = binF sg (worthF kvs a) (worthF kvs b) from rfl, ei, ej]
        exact .cm h
    refine q_when (b := false) (et_B (ev_isi (ev_var rfl) (fun _ e => ty_ref (ex_t e hT)) (by decide +kernel))) (fun h => by cases h) (fun _ H1 s1 => ?_)
    refine q_when (b := false) (et_not (a := true) (et_B (ev_isi (ev_var rfl) (fun _ e => ty_ref (ex_t (s1.trans e) hT)) (by decide +kernel)))) (fun h => by cases h) (fun _ H2 s2 => ?_)
    have S2 := s1.trans s2
    refine q_asgL (xs := [worthF kvs a, worthF kvs b]) (EvL.cast (el_lcNU (K := K) (xs := [va, vb]) (fun _ => true) (fun i => [worthF kvs a, worthF kvs b].getD i .non) (eu_slT (ev_var rfl) (eo_some ev_c) eo_none (ex_t S2 hT) (by show ¬ (1 = 0 ∧ 3 = 3); omega)) (by show 2 ≤ 40000; decide) (fun _ => rfl) (fun _ _ _ _ _ => et_yes) (fun i x H3 s3 hx _ => ?_)) rfl) fun pp H3 _ s3 e3 => ?_
    · have hi : (i = 0 ∧ x = va) ∨ (i = 1 ∧ x = vb) := by
        cases i with
        | zero => exact .inl ⟨rfl, (Option.some.inj hx).symm⟩
        | succ i =>
          cases i with
          | zero => exact .inr ⟨rfl, (Option.some.inj hx).symm⟩
          | succ i => cases hx
      rcases hi with ⟨rfl, rfl⟩ | ⟨rfl, rfl⟩
      · exact EvP.val (ep_call (ap_cons mono_D (ep_var rfl mono_D (Dp.mono (S2.trans s3) ha)) (ap_cons mono_Dct (ep_var rfl mono_Dct ⟨dv, rfl, (S2.trans s3) _ _ hd⟩) ap_nil)) (sp_val hoka (by omega)))
      · exact EvP.val (ep_call (ap_cons mono_D (ep_var rfl mono_D (Dp.mono (S2.trans s3) hb)) (ap_cons mono_Dct (ep_var rfl mono_Dct ⟨dv, rfl, (S2.trans s3) _ _ hd⟩) ap_nil)) (sp_val hokb (by omega)))
    exact ep_ret (ep_call (ap_cons mono_V (Ev.p (ev_ixT (ev_var rfl) ev_c (ex_t (S2.trans s3) hT) rfl)) (ap_cons mono_L (ep_var rfl mono_L ⟨pp, rfl, sq_of e3⟩) ap_nil)) (sp_app happ)) fun r H4 s4 hr4 => by
      rw [show r = _ from hr4]
      exact q H4 ((S2.trans s3).trans s4)
end
end SB

set_option Elab.async false
set_option linter.all false
set_option maxRecDepth 100000
namespace SB
open PySem L2 Evl
/-! ### _law_worth -/
theorem put3 (k1 k2 k3 : Key) (a b c : V) (h12 : ¬ k2 = k1) (h13 : ¬ k3 = k1) (h23 : ¬ k3 = k2) (k : Key) : valV (mergeK [] [(k1, a), (k2, b), (k3, c)]) k = if k = k3 then some c else if k = k2 then some b else if k = k1 then some a else none := by
  show valV (putK (putK (putK [] k1 a) k2 b) k3 c) k = _
  rw [valV_put, valV_put, valV_put]
  rfl
theorem vplus (a b c : V) : valV (mergeK [] [((.inr "+" : Key), a), (.inr "-", b), (.inr "*", c)]) (.inr "+") = some a := by
  rw [put3 _ _ _ _ _ _ (by decide +kernel) (by decide +kernel) (by decide +kernel), if_neg (by decide +kernel), if_neg (by decide +kernel), if_pos rfl]
theorem vminus (a b c : V) : valV (mergeK [] [((.inr "+" : Key), a), (.inr "-", b), (.inr "*", c)]) (.inr "-") = some b := by
  rw [put3 _ _ _ _ _ _ (by decide +kernel) (by decide +kernel) (by decide +kernel), if_neg (by decide +kernel), if_pos rfl]
theorem vtimes (a b c : V) : valV (mergeK [] [((.inr "+" : Key), a), (.inr "-", b), (.inr "*", c)]) (.inr "*") = some c := by
  rw [put3 _ _ _ _ _ _ (by decide +kernel) (by decide +kernel) (by decide +kernel), if_pos rfl]
theorem vlt (a b c : V) : valV (mergeK [] [((.inr "<" : Key), a), (.inr "<=", b), (.inr "=", c)]) (.inr "<") = some a := by
  rw [put3 _ _ _ _ _ _ (by decide +kernel) (by decide +kernel) (by decide +kernel), if_neg (by decide +kernel), if_neg (by decide +kernel), if_pos rfl]
theorem vle (a b c : V) : valV (mergeK [] [((.inr "<" : Key), a), (.inr "<=", b), (.inr "=", c)]) (.inr "<=") = some b := by
  rw [put3 _ _ _ _ _ _ (by decide +kernel) (by decide +kernel) (by decide +kernel), if_neg (by decide +kernel), if_pos rfl]
theorem veq (a b c : V) : valV (mergeK [] [((.inr "<" : Key), a), (.inr "<=", b), (.inr "=", c)]) (.inr "=") = some c := by
  rw [put3 _ _ _ _ _ _ (by decide +kernel) (by decide +kernel) (by decide +kernel), if_pos rfl]
theorem lo_ar : ∀ s : Str, s ∈ loS → s ∉ arS := by decide +kernel
theorem cm_ar : ∀ s : Str, s ∈ cmS → s ∉ arS := by decide +kernel
theorem cm_lo : ∀ s : Str, s ∈ cmS → s ∉ loS := by decide +kernel
section
variable {P : Program} {w : World} {K : PySem.W.Frag} {mg : Str → Option Value} {base : Heap}
abbrev s__law_worth : Stmt := topS 13
theorem sc__law_worth : FnScope ["expression", "values", "sign", "first", "second"] ["expression", "values"] (defScope s__law_worth) := ⟨rfl, rfl, rfl, by decide +kernel, rfl, by decide +kernel, by decide +kernel⟩
theorem ok__law_worth {n : Nat} {f : Addr} {fd : FuncData} (F : Fun K "_law_worth" "_law_worth" s__law_worth f fd) (T : Txt K mg) (F__law_fitted : Fn P w K mg base 1 "_law_fitted" ["number"] spFit)
    (F__law_worth : Fn P w K mg base (n + 1) "_law_worth" ["expression", "values"] (spVal K n)) : FnOk P w K mg base CX0 (n + 2) f fd ["expression", "values"] (spVal K (n + 1)) := by
  refine F.ok sc__law_worth (fun vs H Q E h => ?_) (fun cdv A outer s H vs Q E hr h => ?_)
  · obtain ⟨v, dv, kvs, t, k, m, rfl, _⟩ := h
    rfl
  obtain ⟨v, dv, kvs, t, k, m, rfl, hv, hd, hok, hm, q⟩ := h
  have nd := sc__law_worth.nd
  have hr__law_fitted : Room 1 _ := hr.mono (by omega)
  have hr__law_worth := hr
  refine ⟨_, (pss_cons (ps_if (pt_val (pe_callB isi1 (by rfl) T.isinstance_ (by decide +kernel) (pa_cons (pv 0) (pa_cons (pe_bltn (v := .ty "str") (u := .type "str") (by rfl) T.str_ (by decide +kernel) rfl) pa_nil)))) (pss_one (ps_ret (pe_dget (hu_of hr) (pv 1) (pv 0) (fun _ _ => rfl)))) pss_nil)
      (pss_cons (ps_if (pt_not (pt_val (pe_callB isi1 (by rfl) T.isinstance_ (by decide +kernel) (pa_cons (pv 0) (pa_cons (pe_bltn (v := .ty "tuple") (u := .type "tuple") (by rfl) T.tuple_ (by decide +kernel) rfl) pa_nil))))) (pss_one (ps_ret (pv 0))) pss_nil)
      (pss_cons (ps_set (i := 2) nd rfl (by first | exact .inl rfl | exact .inr rfl) (pe_ix ix_tup (pv 0) pe_int (fun _ _ => rfl)))
      (pss_cons (ps_set (i := 3) nd rfl (by first | exact .inl rfl | exact .inr rfl) (pe_fn F__law_worth hr__law_worth (by rfl) (pa_cons (pe_ix ix_tup (pv 0) pe_int (fun _ _ => rfl)) (pa_cons (pv 1) pa_nil))))
      (pss_cons (ps_if (pt_cmpR op_eq (pv 2) pe_str (nomark _)) (pss_one (ps_ret (pe_not (pv 3)))) pss_nil)
      (pss_cons (ps_set (i := 4) nd rfl (by first | exact .inl rfl | exact .inr rfl) (pe_fn F__law_worth hr__law_worth (by rfl) (pa_cons (pe_ix ix_tup (pv 0) pe_int (fun _ _ => rfl)) (pa_cons (pv 1) pa_nil))))
      (pss_cons (ps_if (pt_cmpR op_in_seq (pv 2) (pe_lst (pa_cons pe_str (pa_cons pe_str (pa_cons pe_str pa_nil)))) (by with_unfolding_all rfl)) (pss_one (ps_ret (pe_fn F__law_fitted hr__law_fitted (by rfl) (pa_cons (pe_dget (hu_of hr) (pe_disp (pps_cons pe_str (pe_op op_add (pv 3) (pv 4)) (pps_cons pe_str (pe_op op_sub (pv 3) (pv 4)) (pps_cons pe_str (pe_op op_mul (pv 3) (pv 4)) pps_nil))) (by rfl) (by rfl) (fun z => by cases z) (by decide)) (pv 2) (fun _ _ => rfl)) pa_nil)))) pss_nil)
      (pss_cons (ps_if (pt_cmpR op_in_seq (pv 2) (pe_lst (pa_cons pe_str (pa_cons pe_str pa_nil))) (by with_unfolding_all rfl)) (pss_one (ps_ret (pe_ix ix_list (pe_lst (pa_cons (pe_or (pv 3) (pe_one (pv 4))) (pa_cons (pe_and (pv 3) (pe_one (pv 4))) pa_nil))) (pe_callTy c_int (by rfl) T.int_ (by decide +kernel) (pa_cons (pe_cmpR op_eq (pv 2) pe_str (nomark _)) pa_nil)) (fun _ _ => rfl)))) pss_nil)
      (pss_one (ps_ret (pe_dget (hu_of hr) (pe_disp (pps_cons pe_str (pe_cmpR op_lt (pv 3) (pv 4) (nomark _)) (pps_cons pe_str (pe_cmpR op_le (pv 3) (pv 4) (nomark _)) (pps_cons pe_str (pe_cmpR op_eq (pv 3) (pv 4) (nomark _)) pps_nil))) (by rfl) (by rfl) (fun z => by cases z) (by decide)) (pv 2) (fun _ _ => rfl)))))))))))), ?_⟩
  have eqS : ∀ (x y : Str), decide (V.str x = V.str y) = decide (x = y) := fun x y => by
    rw [Bool.eq_iff_iff, decide_eq_true_eq, decide_eq_true_eq]
    exact ⟨fun h => by injection h, fun h => congrArg V.str h⟩
  have mulB : ∀ {i j : Int}, Bd i → CMul i j := fun h => .inl ⟨by have := h.1; omega, by have := h.2; omega⟩
  cases t with
  | num i =>
    have hv' : v = .int i := by cases hv; rfl
    subst hv'
    refine q_when (b := false) (et_B (ev_isi (ev_var rfl) (fun _ _ => .base (.int i)) (by decide +kernel))) (fun h => by cases h) (fun _ H1 s1 => ?_)
    refine q_when (b := true) (et_not (a := false) (et_B (ev_isi (ev_var rfl) (fun _ _ => .base (.int i)) (by decide +kernel)))) (fun _ H2 s2 => ?_) (fun h => by cases h)
    exact s_ret (ev_var rfl) fun H3 s3 => q H3 ((s1.trans s2).trans s3)
  | bl b =>
    have hv' : v = .bl b := by cases hv; rfl
    subst hv'
    refine q_when (b := false) (et_B (ev_isi (ev_var rfl) (fun _ _ => .base (.bl b)) (by decide +kernel))) (fun h => by cases h) (fun _ H1 s1 => ?_)
    refine q_when (b := true) (et_not (a := false) (et_B (ev_isi (ev_var rfl) (fun _ _ => .base (.bl b)) (by decide +kernel)))) (fun _ H2 s2 => ?_) (fun h => by cases h)
    exact s_ret (ev_var rfl) fun H3 s3 => q H3 ((s1.trans s2).trans s3)
  | var x =>
    have hv' : v = .str x := by cases hv; rfl
    subst hv'
    refine q_when (b := true) (et_B (ev_isi (ev_var rfl) (fun _ _ => .base (.str x)) (by decide +kernel))) (fun _ H1 s1 => ?_) (fun h => by cases h)
    have hx : ∃ z, valV kvs (.inr x) = some z ∧ worthF kvs (.var x) = z := by
      cases hok with
      | varI h b => exact ⟨_, h, by unfold worthF; rw [h]; rfl⟩
      | varB h => exact ⟨_, h, by unfold worthF; rw [h]; rfl⟩
    obtain ⟨z, hz, ez⟩ := hx
    rw [ez] at q
    exact s_ret (ev_dget (k := .inr x) (ev_var rfl) (ev_var rfl) (s1 _ _ hd) hz) fun H2 s2 => q H2 (s1.trans s2)
  | nt a =>
    obtain ⟨p, va, rfl, hT, ha⟩ : ∃ p va, v = V.ref p ∧ SqT K H p [.str "not", va] ∧ Dp K H va a.data := by
      cases hv with
      | tup h1 h2 =>
        cases h2 with
        | cons c1 c2 =>
          cases c2 with
          | cons c3 c4 =>
            cases c4
            cases c1
            exact ⟨_, _, rfl, h1, c3⟩
    obtain ⟨m', hm', hoka⟩ : ∃ m', m' + 1 = m ∧ SB.Ok kvs false m' a := by
      cases hok with
      | nt h => exact ⟨_, rfl, h⟩
    obtain ⟨wa, ewa⟩ := ok_val hoka
    refine q_when (b := false) (et_B (ev_isi (ev_var rfl) (fun _ e => ty_ref (ex_t e hT)) (by decide +kernel))) (fun h => by cases h) (fun _ H1 s1 => ?_)
    refine q_when (b := false) (et_not (a := true) (et_B (ev_isi (ev_var rfl) (fun _ e => ty_ref (ex_t (s1.trans e) hT)) (by decide +kernel)))) (fun h => by cases h) (fun _ H2 s2 => ?_)
    have S2 := s1.trans s2
    refine q_asg (ev_ixT (ev_var rfl) ev_c (ex_t S2 hT) rfl) fun H3 s3 => ?_
    have S3 := S2.trans s3
    refine qp_asg (ep_call (ap_cons mono_D (EvP.imp (Ev.p (ev_ixT (ev_var rfl) ev_c (ex_t S3 hT) rfl)) (P1 := isD K a.data) fun _ H2 e (z : _ = _) => by rw [z]; exact Dp.mono (S3.trans e) ha) (ap_cons mono_Dct (ep_var rfl mono_Dct ⟨dv, rfl, S3 _ _ hd⟩) ap_nil)) (sp_val hoka (by omega))) fun r H4 s4 er => ?_
    obtain rfl : r = worthF kvs a := er
    rw [ewa]
    have hw : worthF kvs (.nt a) = .bl (!wa) := by
      unfold worthF
      rw [ewa]
    rw [hw] at q
    refine q_when (b := true) (et_is (et_test (ev_op (ev_var rfl) ev_c (rv_eq rfl))) (by decide +kernel)) (fun _ H5 s5 => ?_) (fun h => by cases h)
    exact s_ret (ev_notV (ev_var rfl)) fun H6 s6 => q H6 (((S3.trans s4).trans s5).trans s6)
  | bin sg a b =>
    obtain ⟨p, va, vb, rfl, hT, ha, hb⟩ : ∃ p va vb, v = V.ref p ∧ SqT K H p [.str sg, va, vb] ∧ Dp K H va a.data ∧ Dp K H vb b.data := by
      cases hv with
      | tup h1 h2 =>
        cases h2 with
        | cons c1 c2 =>
          cases c2 with
          | cons c3 c4 =>
            cases c4 with
            | cons c5 c6 =>
              cases c6
              cases c1
              exact ⟨_, _, _, rfl, h1, c3, c5⟩
    obtain ⟨m', ka, hm', hoka, hokb, hns⟩ : ∃ m' ka, m' + 1 = m ∧ SB.Ok kvs ka m' a ∧ SB.Ok kvs ka m' b ∧ sg ≠ "not" := by
      cases hok with
      | ar h h1 h2 => exact ⟨_, _, rfl, h1, h2, fun e => by rw [e] at h; exact absurd h (by decide +kernel)⟩
      | lo h h1 h2 => exact ⟨_, _, rfl, h1, h2, fun e => by rw [e] at h; exact absurd h (by decide +kernel)⟩
      | cm h h1 h2 => exact ⟨_, _, rfl, h1, h2, fun e => by rw [e] at h; exact absurd h (by decide +kernel)⟩
    refine q_when (b := false) (et_B (ev_isi (ev_var rfl) (fun _ e => ty_ref (ex_t e hT)) (by decide +kernel))) (fun h => by cases h) (fun _ H1 s1 => ?_)
    refine q_when (b := false) (et_not (a := true) (et_B (ev_isi (ev_var rfl) (fun _ e => ty_ref (ex_t (s1.trans e) hT)) (by decide +kernel)))) (fun h => by cases h) (fun _ H2 s2 => ?_)
    have S2 := s1.trans s2
    refine q_asg (ev_ixT (ev_var rfl) ev_c (ex_t S2 hT) rfl) fun H3 s3 => ?_
    have S3 := S2.trans s3
    refine qp_asg (ep_call (ap_cons mono_D (EvP.imp (Ev.p (ev_ixT (ev_var rfl) ev_c (ex_t S3 hT) rfl)) (P1 := isD K a.data) fun _ H2 e (z : _ = _) => by rw [z]; exact Dp.mono (S3.trans e) ha) (ap_cons mono_Dct (ep_var rfl mono_Dct ⟨dv, rfl, S3 _ _ hd⟩) ap_nil)) (sp_val hoka (by omega))) fun r H4 s4 er => ?_
    obtain rfl : r = worthF kvs a := er
    refine q_when (b := false) (et_is (et_test (ev_op (ev_var rfl) ev_c (rv_eq rfl))) (by rw [eqS]; exact decide_eq_false hns)) (fun h => by cases h) (fun _ H5 s5 => ?_)
    have S5 := (S3.trans s4).trans s5
    refine qp_asg (ep_call (ap_cons mono_D (EvP.imp (Ev.p (ev_ixT (ev_var rfl) ev_c (ex_t S5 hT) rfl)) (P1 := isD K b.data) fun _ H2 e (z : _ = _) => by rw [z]; exact Dp.mono (S5.trans e) hb) (ap_cons mono_Dct (ep_var rfl mono_Dct ⟨dv, rfl, S5 _ _ hd⟩) ap_nil)) (sp_val hokb (by omega))) fun r H6 s6 er => ?_
    obtain rfl : r = worthF kvs b := er
    have S6 := S5.trans s6
    have inA : ∀ H', EvT (tTest (tOp (rIn K false) (tVar 2) (tLst (tCons (tC (.str "+")) (tCons (tC (.str "-")) (tCons (tC (.str "*")) tNil)))))) [some (.ref p), some (.ref dv), some (.str sg), some (worthF kvs a), some (worthF kvs b)] H' (decide (sg ∈ arS)) := fun H' =>
      et_is (et_test (ev_opL (xs := arS.map V.str) (ev_var rfl) (el_lst (by repeat first | exact ea_nil | refine ea_cons ev_c ?_) (by decide)) fun p H1 hp _ => rv_isL (sq_of hp) rfl (flat_strs _))) (inV_str _ _)
    have inL : ∀ H', EvT (tTest (tOp (rIn K false) (tVar 2) (tLst (tCons (tC (.str "and")) (tCons (tC (.str "or")) tNil))))) [some (.ref p), some (.ref dv), some (.str sg), some (worthF kvs a), some (worthF kvs b)] H' (decide (sg ∈ loS)) := fun H' =>
      et_is (et_test (ev_opL (xs := loS.map V.str) (ev_var rfl) (el_lst (by repeat first | exact ea_nil | refine ea_cons ev_c ?_) (by decide)) fun p H1 hp _ => rv_isL (sq_of hp) rfl (flat_strs _))) (inV_str _ _)
    rw [show worthF kvs (.bin sg a b) = binF sg (worthF kvs a) (worthF kvs b) from rfl] at q
    cases hok with
    | ar h h1 h2 =>
      obtain ⟨i, ei, bi⟩ := ok_val h1
      obtain ⟨j, ej, bj⟩ := ok_val h2
      rw [ei, ej] at q
      refine q_when (inA H6) (fun _ H7 s7 => ?_) (fun hf => absurd h (of_decide_eq_false hf))
      rw [ei, ej]
      have disp : ∀ {z : Int}, binF sg (.int i) (.int j) = .int (fit z) → valV (mergeK [] [((.inr "+" : Key), V.int (i + j)), (.inr "-", .int (i - j)), (.inr "*", .int (i * j))]) (.inr sg) = some (.int z) →
          tRet (tCall spFit [] E0 (tCons (tDGet (tDisp [(tC (.str "+"), tOp (rI0 fun i j => .int (i + j)) (tVar 3) (tVar 4)), (tC (.str "-"), tOp (rI0 fun i j => .int (i - j)) (tVar 3) (tVar 4)), (tC (.str "*"), tOp (rI CMul fun i j => .int (i * j)) (tVar 3) (tVar 4))]) (tVar 2)) tNil))
            { nx := fun _ H' => Q .non H', rt := Q } [some (.ref p), some (.ref dv), some (.str sg), some (.int i), some (.int j)] H7 := fun {z} e1 e2 => by
        rw [e1] at q
        exact ep_ret (ep_call (ap_cons mono_V (Ev.p (ev_dispGet (k := .inr sg) (pr_cons (k := .inr "+") ev_c (ev_op (ev_var rfl) (ev_var rfl) rv_I0) (pr_cons (k := .inr "-") ev_c (ev_op (ev_var rfl) (ev_var rfl) rv_I0) (pr_cons (k := .inr "*") ev_c (ev_op (ev_var rfl) (ev_var rfl) (rv_I (mulB bi))) pr_nil)))
          (fun _ _ => ev_var rfl) (Nat.le_of_ble_eq_true rfl) e2)) ap_nil) sp_fit) fun v H8 s8 hv => by
            rw [show v = _ from hv]
            exact q H8 ((S6.trans s7).trans s8)
      simp only [arS, List.mem_cons, List.not_mem_nil, or_false] at h
      rcases h with rfl | rfl | rfl
      · exact disp (b_add i j) (vplus _ _ _)
      · exact disp (b_sub i j) (vminus _ _ _)
      · exact disp (b_mul i j) (vtimes _ _ _)
    | lo h h1 h2 =>
      obtain ⟨i, ei⟩ := ok_val h1
      obtain ⟨j, ej⟩ := ok_val h2
      rw [ei, ej] at q
      refine q_when (b := false) (et_is (inA H6) (decide_eq_false fun z => lo_ar sg h z)) (fun h => by cases h) (fun _ H7 s7 => ?_)
      refine q_when (inL H7) (fun _ H8 s8 => ?_) (fun hf => absurd h (of_decide_eq_false hf))
      rw [ei, ej]
      simp only [loS, List.mem_cons, List.not_mem_nil, or_false] at h
      rcases h with rfl | rfl
      · rw [b_and] at q
        exact s_ret (ev_ixN (xs := [.bl (i || j), .bl (i && j)]) (i := 1) (el_lst (ea_cons (ev_orV (ev_var rfl) fun _ => ev_var rfl) (ea_cons (ev_andV (ev_var rfl) fun _ => ev_var rfl) ea_nil)) (by show 2 ≤ 100000; decide))
          (fun _ _ => ev_is (ev_intB (b := true) (ev_is (ev_op (ev_var rfl) ev_c (rv_eq rfl)) (by decide +kernel))) rfl) rfl) fun H9 s9 => q H9 (((S6.trans s7).trans s8).trans s9)
      · rw [b_or] at q
        exact s_ret (ev_ixN (xs := [.bl (i || j), .bl (i && j)]) (i := 0) (el_lst (ea_cons (ev_orV (ev_var rfl) fun _ => ev_var rfl) (ea_cons (ev_andV (ev_var rfl) fun _ => ev_var rfl) ea_nil)) (by show 2 ≤ 100000; decide))
          (fun _ _ => ev_is (ev_intB (b := false) (ev_is (ev_op (ev_var rfl) ev_c (rv_eq rfl)) (by decide +kernel))) rfl) rfl) fun H9 s9 => q H9 (((S6.trans s7).trans s8).trans s9)
    | cm h h1 h2 =>
      obtain ⟨i, ei, bi⟩ := ok_val h1
      obtain ⟨j, ej, bj⟩ := ok_val h2
      rw [ei, ej] at q
      refine q_when (b := false) (et_is (inA H6) (decide_eq_false fun z => cm_ar sg h z)) (fun h => by cases h) (fun _ H7 s7 => ?_)
      refine q_when (b := false) (et_is (inL H7) (decide_eq_false fun z => cm_lo sg h z)) (fun h => by cases h) (fun _ H8 s8 => ?_)
      rw [ei, ej]
      have disp : valV (mergeK [] [((.inr "<" : Key), V.bl (decide (i < j))), (.inr "<=", .bl (decide (i ≤ j))), (.inr "=", .bl (decide (V.int i = V.int j)))]) (.inr sg) = some (binF sg (.int i) (.int j)) →
          tRet (tDGet (tDisp [(tC (.str "<"), tOp (rI0 fun i j => .bl (decide (i < j))) (tVar 3) (tVar 4)), (tC (.str "<="), tOp (rI0 fun i j => .bl (decide (i ≤ j))) (tVar 3) (tVar 4)), (tC (.str "="), tOp rEq (tVar 3) (tVar 4))]) (tVar 2))
            { nx := fun _ H' => Q .non H', rt := Q } [some (.ref p), some (.ref dv), some (.str sg), some (.int i), some (.int j)] H8 := fun e2 =>
        s_ret (ev_dispGet (k := .inr sg) (pr_cons (k := .inr "<") ev_c (ev_op (ev_var rfl) (ev_var rfl) rv_I0) (pr_cons (k := .inr "<=") ev_c (ev_op (ev_var rfl) (ev_var rfl) rv_I0) (pr_cons (k := .inr "=") ev_c (ev_op (ev_var rfl) (ev_var rfl) (rv_eq rfl)) pr_nil)))
          (fun _ _ => ev_var rfl) (Nat.le_of_ble_eq_true rfl) e2) fun H9 s9 => q H9 (((S6.trans s7).trans s8).trans s9)
      simp only [cmS, List.mem_cons, List.not_mem_nil, or_false] at h
      rcases h with rfl | rfl | rfl
      · exact disp (by rw [b_lt]; exact vlt _ _ _)
      · exact disp (by rw [b_le]; exact vle _ _ _)
      · exact disp (by rw [b_eq]; exact veq _ _ _)
end
end SB

set_option Elab.async false
set_option linter.all false
set_option maxRecDepth 100000
namespace SB
open PySem L2 Evl
/-! ### dicts -/
def rDictD : List V → Hp → VK → Prop := fun xs H Q => ∃ (a : Addr) (kvs : List (Key × V)), xs = [.ref a] ∧ Rd H a (.dK kvs) ∧ ∀ p, H p = none → Q (.ref p) (upd H p (.dK kvs))
theorem c_dictD {X : Cx} : CallR X (.type "dict") rDictD := call_dictD
section
variable {K : PySem.W.Frag} {σ : L2.St} {H : Hp} {te ta tb tc td ty tv : TE} {P : VH} {v x y : V} {xs ys : List V} {tt : TT} {D : Ends} {tz : TS} {i : Nat} {a : Addr} {kvs : List (Key × V)} {k : Key}
theorem q_asgD (h : ∀ p H1, H p = none → Evl.Ex H H1 → H1 p = some (.dK []) → tz D (σ.set i (some (.ref p))) H1) : tSeq (tAsg tDNewK (gName i)) tz D σ H := fun p hp => h p _ hp (Evl.Ex.new hp) upd_same
theorem q_dput (hv : Ev tv σ H v) (hd : Ev td σ H (.ref a)) (hk : Ev ty σ H (kV k)) (e : H a = some (.dK kvs)) (hl : kvs.length < 100000) (h : ∀ H1, Evl.Ex H H1 → tz D σ (upd H1 a (.dK (putK kvs k v)))) : tSeq (sDPut td ty tv) tz D σ H :=
  hv H (Evl.Ex.refl H) _ fun H1 e1 => hd H1 e1 _ fun H2 e2 => hk H2 (e1.trans e2) _ fun H3 e3 => ⟨a, _, rfl, DPut.k (((e1.trans e2).trans e3) _ _ e) (sz_lt hl), h H3 ((e1.trans e2).trans e3)⟩
theorem s_dput (hv : Ev tv σ H v) (hd : Ev td σ H (.ref a)) (hk : Ev ty σ H (kV k)) (e : H a = some (.dK kvs)) (hl : kvs.length < 100000) (h : ∀ H1, Evl.Ex H H1 → D.nx σ (upd H1 a (.dK (putK kvs k v)))) : sDPut td ty tv D σ H :=
  hv H (Evl.Ex.refl H) _ fun H1 e1 => hd H1 e1 _ fun H2 e2 => hk H2 (e1.trans e2) _ fun H3 e3 => ⟨a, _, rfl, DPut.k (((e1.trans e2).trans e3) _ _ e) (sz_lt hl), h H3 ((e1.trans e2).trans e3)⟩
theorem q_dictD (h : Ev ta σ H (.ref a)) (e : H a = some (.dK kvs)) (q : ∀ p H1, H p = none → Evl.Ex H H1 → H1 p = some (.dK kvs) → tz D (σ.set i (some (.ref p))) H1) : tSeq (tAsg (tCB rDictD (tCons ta tNil)) (gName i)) tz D σ H :=
  h H (Evl.Ex.refl H) _ fun H1 e1 => ⟨a, kvs, rfl, Rd.of (e1 _ _ e), fun p hp => q p _ (fresh_back e1 hp) (e1.trans (Evl.Ex.new hp)) upd_same⟩
theorem ev_chain {r r' : R2} {b b' : Bool} {z : V} (ha : Ev ta σ H x) (hb : Ev tb σ H y) (hr : RV r x y H (.bl b)) (hc : b = true → Ev tc σ H z) (hr' : b = true → RV r' y z H (.bl b')) : Ev (tChain r r' ta tb tc) σ H (.bl (b && b')) := fun H1 e Q q =>
  ha H1 e _ fun H2 e2 => hb H2 (e.trans e2) _ fun H3 e3 => hr H3 ((e.trans e2).trans e3) _ fun H4 e4 => ⟨b, rfl, by
    have E4 := ((e.trans e2).trans e3).trans e4
    cases b with
    | true =>
      show tc σ H4 _
      exact hc rfl H4 E4 _ fun H5 e5 => hr' rfl H5 (E4.trans e5) _ fun H6 e6 => q H6 ((((e2.trans e3).trans e4).trans e5).trans e6)
    | false =>
      show Q (.bl false) H4
      exact q H4 ((e2.trans e3).trans e4)⟩
theorem rv_neD {a b : Addr} {kvs : List (Key × V)} (ha : H a = some (.dK kvs)) (hb : H b = some (.dK kvs)) (h : ∀ p ∈ kvs, valV kvs p.1 = some p.2 ∧ flatB p.2 = true) : RV rNeDA (.ref a) (.ref b) H (.bl false) := fun H1 e _ q =>
  ⟨a, b, kvs, kvs, rfl, rfl, e _ _ ha, e _ _ hb, rfl, h, q H1 (Evl.Ex.refl H1)⟩
end
theorem valV_mem : ∀ {kvs : List (Key × V)}, (kvs.map (·.1)).Nodup → ∀ {p : Key × V}, p ∈ kvs → valV kvs p.1 = some p.2
  | [], _, _, h => by cases h
  | q :: r, nd, p, h => by
    rw [List.map_cons, List.nodup_cons] at nd
    rcases List.mem_cons.mp h with rfl | h
    · exact valV_pos rfl
    · rw [valV_neg (fun e => nd.1 (by rw [e]; exact List.mem_map.mpr ⟨p, h, rfl⟩))]
      exact valV_mem nd.2 h
theorem valV_none {kvs : List (Key × V)} {k : Key} (h : k ∉ kvs.map (·.1)) : valV kvs k = none := by
  cases e : valV kvs k with
  | none => rfl
  | some v => exact absurd (valV_in e) h
theorem put_again {kvs : List (Key × V)} {k : Key} {a b : V} (h : k ∉ kvs.map (·.1)) : putK (kvs ++ [(k, a)]) k b = kvs ++ [(k, b)] := by
  unfold putK
  rw [if_pos (by rw [List.any_append]; simp), List.map_append]
  have e : kvs.map (fun kv => if kv.1 = k then (kv.1, b) else kv) = kvs := by
    have e0 : kvs.map (fun kv => if kv.1 = k then (kv.1, b) else kv) = kvs.map id := List.map_congr_left fun p hp => by
      have n : ¬ p.1 = k := fun e => h (by rw [← e]; exact List.mem_map.mpr ⟨p, hp, rfl⟩)
      show (if p.1 = k then (p.1, b) else p) = p
      rw [if_neg n]
    rw [e0, List.map_id]
  rw [e]
  simp
/-! ### the law's own data -/
def limsL : List Int := [8] ++ List.replicate 8 2 ++ List.replicate 8 2000000001
theorem limsL_ok : ∀ l ∈ limsL, 0 < l ∧ l < 18446744073709551616 := by decide +kernel
def vlI (d : Int) : Int := (d - 1000000000) * ([1, 1, 1000003] : List Int).getD (d % 3).toNat 0
def vlF (ds : List Int) (k : Nat) : V := if ds.getD (1 + k) 0 = 1 then .bl (decide (ds.getD (9 + k) 0 % 2 = 1)) else .int (vlI (ds.getD (9 + k) 0))
def entF (ds : List Int) (nm : List Str) (n : Nat) : List (Key × V) := (List.range n).map fun k => (.inr (nm.getD k ""), vlF ds k)
def seenF (ds : List Int) (nm : List Str) (n : Nat) : List (Str × Bool) := (List.range n).map fun k => (nm.getD k "", decide (ds.getD (1 + k) 0 = 0))
def SeenOk (kvs : List (Key × V)) (seen : List (Str × Bool)) : Prop := ∀ p ∈ seen, IsK p.2 ((valV kvs (.inr p.1)).getD .non) ∧ (valV kvs (.inr p.1)).isSome = true
theorem vlI_bd {d : Int} (h0 : 0 ≤ d) (h1 : d < 2000000001) : Bd (vlI d) := by
  have z0 := Int.emod_nonneg d (by decide : (3 : Int) ≠ 0)
  have z1 := Int.emod_lt_of_pos d (by decide : (0 : Int) < 3)
  have e : ([1, 1, 1000003] : List Int).getD (d % 3).toNat 0 = 1 ∨ ([1, 1, 1000003] : List Int).getD (d % 3).toNat 0 = 1000003 := by
    have c : d % 3 = 0 ∨ d % 3 = 1 ∨ d % 3 = 2 := by omega
    rcases c with c | c | c <;> rw [c]
    · exact .inl rfl
    · exact .inl rfl
    · exact .inr rfl
  unfold vlI Bd
  rcases e with e | e <;> rw [e] <;> omega
theorem ent_keys (ds : List Int) (nm : List Str) (n : Nat) : (entF ds nm n).map (·.1) = (List.range n).map fun k => (.inr (nm.getD k "") : Key) := by
  unfold entF
  rw [List.map_map]
  rfl
theorem getD_inj {nm : List Str} (nd : nm.Nodup) {i j : Nat} (hi : i < nm.length) (hj : j < nm.length) (e : nm.getD i "" = nm.getD j "") : i = j := by
  rw [List.getD_eq_getElem?_getD, List.getD_eq_getElem?_getD, List.getElem?_eq_getElem hi, List.getElem?_eq_getElem hj] at e
  exact (List.getElem_inj nd).mp e
theorem ent_new {ds : List Int} {nm : List Str} (nd : nm.Nodup) {n : Nat} (h : n < nm.length) : (.inr (nm.getD n "") : Key) ∉ (entF ds nm n).map (·.1) := by
  rw [ent_keys]
  intro hm
  obtain ⟨k, hk, e⟩ := List.mem_map.mp hm
  have hk := List.mem_range.mp hk
  have e := Sum.inr.inj e
  have := getD_inj nd (by omega) h e
  omega
theorem ent_nd {ds : List Int} {nm : List Str} (nd : nm.Nodup) : ∀ n, n ≤ nm.length → ((entF ds nm n).map (·.1)).Nodup
  | 0, _ => .nil
  | n + 1, h => by
    have ih := ent_nd (ds := ds) nd n (by omega)
    have fr := ent_new (ds := ds) nd (n := n) (by omega)
    rw [ent_keys] at ih fr ⊢
    rw [List.range_succ, List.map_append, List.nodup_append]
    refine ⟨ih, List.pairwise_singleton _ _, fun a ha b hb e => ?_⟩
    have hb2 : b = .inr (nm.getD n "") := List.mem_singleton.mp hb
    rw [e, hb2] at ha
    exact fr ha
theorem seen_ok {ds : List Int} {nm : List Str} {n : Nat} (nd : nm.Nodup) (hn : n = nm.length) (h2 : ∀ k < n, 0 ≤ ds.getD (1 + k) 0 ∧ ds.getD (1 + k) 0 < 2) (h9 : ∀ k < n, 0 ≤ ds.getD (9 + k) 0 ∧ ds.getD (9 + k) 0 < 2000000001) :
    SeenOk (entF ds nm n) (seenF ds nm n) := by
  rintro p hp
  obtain ⟨k, hk, rfl⟩ := List.mem_map.mp hp
  have hk := List.mem_range.mp hk
  have e : valV (entF ds nm n) (.inr (nm.getD k "")) = some (vlF ds k) := valV_mem (p := (.inr (nm.getD k ""), vlF ds k)) (ent_nd nd n (by omega)) (List.mem_map.mpr ⟨k, List.mem_range.mpr hk, rfl⟩)
  simp only
  rw [e]
  refine ⟨?_, rfl⟩
  show IsK (decide (ds.getD (1 + k) 0 = 0)) (vlF ds k)
  have a := h2 k hk
  have b := h9 k hk
  unfold vlF
  by_cases c : ds.getD (1 + k) 0 = 1
  · rw [if_pos c, decide_eq_false (by omega)]
    exact ⟨_, rfl⟩
  · rw [if_neg c, decide_eq_true (by omega)]
    exact ⟨_, rfl, vlI_bd b.1 b.2⟩
theorem ent_flat {ds : List Int} {nm : List Str} {n : Nat} : ∀ p ∈ entF ds nm n, flatB p.2 = true := by
  rintro p hp
  obtain ⟨k, _, rfl⟩ := List.mem_map.mp hp
  show flatB (vlF ds k) = true
  unfold vlF
  split <;> rfl
/-! ### a drawn expression is well made -/
theorem mem_getD {α : Type} {xs : List α} {i : Nat} {d : α} (h : i < xs.length) : xs.getD i d ∈ xs := by
  rw [List.getD_eq_getElem?_getD, List.getElem?_eq_getElem h]
  exact List.getElem_mem h
theorem exprB_ok {kvs : List (Key × V)} {seen : List (Str × Bool)} (hs : SeenOk kvs seen) {rec : Int → Bool → Tm} {deep : Bool} {n m : Nat} (hr : deep = true → m + 1 = n ∧ ∀ c k, SB.Ok kvs k m (rec c k)) (c : Int) (k : Bool) : SB.Ok kvs k n (exprB seen rec deep c k) := by
  have hP := draws_ok (c := c) (ls := limsE) fun l h => (limsE_ok l h).1
  have hlim : limsE.length = 6 := by decide
  have hb3 : 0 ≤ (drawsF c limsE).getD 3 0 ∧ (drawsF c limsE).getD 3 0 < 60 := paired_get hP 3 (by omega)
  have hb4 : 0 ≤ (drawsF c limsE).getD 4 0 ∧ (drawsF c limsE).getD 4 0 < 2000000001 := paired_get hP 4 (by omega)
  have hb5 : 0 ≤ (drawsF c limsE).getD 5 0 ∧ (drawsF c limsE).getD 5 0 < 3 := paired_get hP 5 (by omega)
  unfold exprB
  simp only
  generalize drawsF c limsE = ds at *
  split
  · rename_i h
    have hf := of_decide_eq_true (Bool.and_eq_true_iff.mp h).1
    have z0 := Int.emod_nonneg (ds.getD 3 0) (show ((fitF seen k).length : Int) ≠ 0 by omega)
    have z1 := Int.emod_lt_of_pos (ds.getD 3 0) hf
    have hm : (fitF seen k).getD (ds.getD 3 0 % ((fitF seen k).length : Int)).toNat "" ∈ fitF seen k := mem_getD (by omega)
    obtain ⟨p, hp, e⟩ := List.mem_map.mp hm
    obtain ⟨hp1, hp2⟩ := List.mem_filter.mp hp
    have hk : p.2 = k := by simpa using hp2
    obtain ⟨q1, q2⟩ := hs p hp1
    rw [← e]
    obtain ⟨v, hv⟩ := Option.isSome_iff_exists.mp q2
    rw [hv] at q1
    subst hk
    cases hk2 : p.2 with
    | true =>
      rw [hk2] at q1
      obtain ⟨i, ei, bi⟩ := q1
      exact .varI (i := i) (by rw [hv]; exact congrArg some ei) bi
    | false =>
      rw [hk2] at q1
      obtain ⟨b, eb⟩ := q1
      exact .varB (b := b) (by rw [hv]; exact congrArg some eb)
  split
  · rename_i hk
    subst hk
    split
    · rename_i h
      have hd := (Bool.and_eq_true_iff.mp h).1
      obtain ⟨rfl, hr2⟩ := hr hd
      exact .ar (mem_getD (by show _ < 3; omega)) (hr2 _ _) (hr2 _ _)
    · unfold leafE
      rw [if_pos rfl]
      split
      · exact .num ⟨by omega, by omega⟩
      · exact .num ⟨by omega, by omega⟩
  · rename_i hk
    have hk : k = false := by simpa using hk
    subst hk
    split
    · rename_i h
      have hd := (Bool.and_eq_true_iff.mp h).1
      obtain ⟨rfl, hr2⟩ := hr hd
      exact .nt (hr2 _ _)
    split
    · rename_i h
      have hd := (Bool.and_eq_true_iff.mp h).1
      obtain ⟨rfl, hr2⟩ := hr hd
      exact .lo (mem_getD (by show _ < 2; omega)) (hr2 _ _) (hr2 _ _)
    split
    · rename_i h
      have hd := (Bool.and_eq_true_iff.mp h).1
      obtain ⟨rfl, hr2⟩ := hr hd
      exact .cm (mem_getD (by show _ < 3; omega)) (hr2 _ _) (hr2 _ _)
    · unfold leafE
      rw [if_neg Bool.false_ne_true]
      exact .bl
theorem exprF_ok {kvs : List (Key × V)} {seen : List (Str × Bool)} (hs : SeenOk kvs seen) : ∀ (d : Nat) (c : Int) (k : Bool), SB.Ok kvs k d (exprF seen d c k)
  | 0, c, k => exprB_ok (m := 0) hs (fun h => by cases h) c k
  | d + 1, c, k => exprB_ok hs (fun _ => ⟨rfl, exprF_ok hs d⟩) c k
/-! ### calls -/
theorem sp_cell {K : PySem.W.Frag} {H : Hp} {ns : List Int} {k : Nat} {z : Int} (hz : z = (k : Int)) : SpP (spCell K) (aCons (isL K (ns.map V.int)) (aCons (isV (.int z)) (fun vs _ => vs = []))) H (isV (.int (ns.getD k 0))) := by
  rintro vs H1 e ⟨v, r, rfl, ⟨a, rfl, hS⟩, v2, r2, rfl, ev, rfl⟩ Q q E
  obtain rfl : v2 = V.int z := ev
  subst hz
  exact ⟨a, ns, k, rfl, hS, q _ H1 (Evl.Ex.refl _) rfl⟩
theorem sp_names {K : PySem.W.Frag} {H : Hp} {c z : Int} {n : Nat} (hz : z = (n : Int)) (hn : n ≤ 64) : SpP (spNames K) (aCons (isV (.int c)) (aCons (isV (.int z)) (fun vs _ => vs = []))) H (isL K ((namesF c n).map V.str)) := by
  rintro vs H1 e ⟨v, r, rfl, ev1, v2, r2, rfl, ev, rfl⟩ Q q E
  obtain rfl : v = V.int c := ev1
  obtain rfl : v2 = V.int z := ev
  subst hz
  exact ⟨c, n, rfl, hn, q⟩
end SB

set_option Elab.async false
set_option linter.all false
set_option maxRecDepth 100000
namespace SB
open PySem L2 Evl
def spLaw (K : PySem.W.Frag) : Sp := fun vs H Q _ => ∃ (a : Addr) (ns : List Int), vs = [.ref a] ∧ SqL K H a (ns.map V.int) ∧ ns.length ≤ 63 ∧ ∀ H', Q (.bl true) H'
theorem eqI (x y : Int) : decide (V.int x = V.int y) = decide (x = y) := by
  rw [Bool.eq_iff_iff, decide_eq_true_eq, decide_eq_true_eq]
  exact ⟨fun h => by injection h, fun h => congrArg V.int h⟩
section
variable {P : Program} {w : World} {K : PySem.W.Frag} {mg : Str → Option Value} {base : Heap}
abbrev s_law : Stmt := topS 14
theorem sc_law : FnScope ["script", "number", "actual", "draws", "names", "values", "seen", "k", "kept", "cell", "kind", "expression", "due"] ["script"] (defScope s_law) := ⟨rfl, rfl, rfl, by decide +kernel, rfl, by decide +kernel, by decide +kernel⟩
theorem ok_law {f : Addr} {fd : FuncData} (F : Fun K "law" "law" s_law f fd) (T : Txt K mg) (F_fitted : Fn P w K mg base 1 "fitted" ["number"] spFit) (F__law_fitted : Fn P w K mg base 1 "_law_fitted" ["number"] spFit)
    (F__law_cell : Fn P w K mg base 1 "_law_cell" ["script", "k"] (spCell K)) (F__law_draws : Fn P w K mg base 1 "_law_draws" ["cell", "limits"] (spDraws K)) (F__law_names : Fn P w K mg base 2 "_law_names" ["cell", "count"] (spNames K))
    (F__law_expr : Fn P w K mg base 9 "_law_expr" ["cell", "kind", "seen", "depth"] (spExpr K 8)) (F_value_of : Fn P w K mg base 10 "value_of" ["expression", "values"] (spVal K 8)) (F__law_worth : Fn P w K mg base 9 "_law_worth" ["expression", "values"] (spVal K 8)) :
    FnOk P w K mg base CX0 11 f fd ["script"] (spLaw K) := by
  refine F.ok sc_law (fun vs H Q E h => ?_) (fun cdv A outer s H vs Q E hr h => ?_)
  · obtain ⟨a, ns, rfl, _⟩ := h
    rfl
  obtain ⟨a, ns, rfl, hS, hn, q⟩ := h
  have nd := sc_law.nd
  have hr_fitted : Room 1 _ := hr.mono (by decide)
  have hr__law_fitted : Room 1 _ := hr.mono (by decide)
  have hr__law_cell : Room 1 _ := hr.mono (by decide)
  have hr__law_draws : Room 1 _ := hr.mono (by decide)
  have hr__law_names : Room 2 _ := hr.mono (by decide)
  have hr__law_expr : Room 9 _ := hr.mono (by decide)
  have hr_value_of : Room 10 _ := hr.mono (by decide)
  have hr__law_worth : Room 9 _ := hr.mono (by decide)
  refine ⟨_, (pss_cons (ps_for PassesOwn.never rfl (pi_list (pe_op op_catL (pe_lst (pa_cons pe_int (pa_cons (pe_un un_neg pe_int) (pa_cons pe_int (pa_cons (pe_un un_neg pe_int) (pa_cons pe_int (pa_cons pe_int pa_nil))))))) (pv 0))) (pg_name (i := 1) nd rfl (by first | exact .inl rfl | exact .inr rfl))
      (pss_cons (ps_set (i := 2) nd rfl (by first | exact .inl rfl | exact .inr rfl) (pe_fn F_fitted hr_fitted (by rfl) (pa_cons (pe_callTy c_int (by rfl) T.int_ (by decide +kernel) (pa_cons (pv 1) pa_nil)) pa_nil)))
      (pss_cons (ps_if (PW.pt (pw_or (pt_not (pt_val (pe_callB isi1 (by rfl) T.isinstance_ (by decide +kernel) (pa_cons (pv 2) (pa_cons (pe_bltn (v := .ty "int") (u := .type "int") (by rfl) T.int_ (by decide +kernel) rfl) pa_nil))))) (pw_or (pt_val (pe_callB isi1 (by rfl) T.isinstance_ (by decide +kernel) (pa_cons (pv 2) (pa_cons (pe_bltn (v := .ty "bool") (u := .type "bool") (by rfl) T.bool_ (by decide +kernel) rfl) pa_nil)))) (pw_or1 (pt_cmpR op_ne (pv 2) (pe_fn F__law_fitted hr__law_fitted (by rfl) (pa_cons (pe_callTy c_int (by rfl) T.int_ (by decide +kernel) (pa_cons (pv 1) pa_nil)) pa_nil)) (nomark _)))))) (pss_one (ps_ret pe_bl)) pss_nil)
      (pss_cons (ps_if (PW.pt (pw_or (pt_not (pt_chain op_le op_le (pe_un un_neg pe_int) (pv 2) pe_int)) (pw_or1 (pt_cmpR op_ne (pe_op o_mod (pe_callTy c_int (by rfl) T.int_ (by decide +kernel) (pa_cons (pe_op op_sub (pv 2) (pe_callTy c_int (by rfl) T.int_ (by decide +kernel) (pa_cons (pv 1) pa_nil))) pa_nil)) pe_int) pe_int (nomark _))))) (pss_one (ps_ret pe_bl)) pss_nil)
      (pss_one (ps_if (PW.pt (pw_and (pt_chain op_le op_le (pe_un un_neg pe_int) (pv 1) pe_int) (pw_and1 (pt_cmpR op_ne (pv 2) (pv 1) (nomark _))))) (pss_one (ps_ret pe_bl)) pss_nil))))))
      (pss_cons (ps_set (i := 3) nd rfl (by first | exact .inl rfl | exact .inr rfl) (pe_fn F__law_draws hr__law_draws (by rfl) (pa_cons (pe_fn F__law_cell hr__law_cell (by rfl) (pa_cons (pv 0) (pa_cons pe_int pa_nil))) (pa_cons (pe_op op_catL (pe_op op_catL (pe_lst (pa_cons pe_int pa_nil)) (pe_op op_rep (pe_lst (pa_cons pe_int pa_nil)) pe_int)) (pe_op op_rep (pe_lst (pa_cons pe_int pa_nil)) pe_int)) pa_nil))))
      (pss_cons (ps_set (i := 4) nd rfl (by first | exact .inl rfl | exact .inr rfl) (pe_fn F__law_names hr__law_names (by rfl) (pa_cons (pe_fn F__law_cell hr__law_cell (by rfl) (pa_cons (pv 0) (pa_cons pe_int pa_nil))) (pa_cons (pe_op op_add pe_int (pe_ix ix_list (pv 3) pe_int (fun _ _ => rfl))) pa_nil))))
      (pss_cons (ps_set (i := 5) nd rfl (by first | exact .inl rfl | exact .inr rfl) pe_dnewK)
      (pss_cons (ps_set (i := 6) nd rfl (by first | exact .inl rfl | exact .inr rfl) (pe_lst pa_nil))
      (pss_cons (ps_for PassesOwn.never rfl (pi_range1 rfl T.range_ (pa_cons (pe_callB c_len (by rfl) T.len_ (by decide +kernel) (pa_cons (pv 4) pa_nil)) pa_nil)) (pg_name (i := 7) nd rfl (by first | exact .inl rfl | exact .inr rfl))
      (pss_cons (ps_dput (hu_of hr) (pv 5) (pe_ix ix_list (pv 4) (pv 7) (fun _ _ => rfl)) (pe_op op_mul (pe_op op_sub (pe_ix ix_list (pv 3) (pe_op op_add pe_int (pv 7)) (fun _ _ => rfl)) pe_int) (pe_ix ix_list (pe_lst (pa_cons pe_int (pa_cons pe_int (pa_cons pe_int pa_nil)))) (pe_op o_mod (pe_callTy c_int (by rfl) T.int_ (by decide +kernel) (pa_cons (pe_ix ix_list (pv 3) (pe_op op_add pe_int (pv 7)) (fun _ _ => rfl)) pa_nil)) pe_int) (fun _ _ => rfl))) rfl)
      (pss_cons (ps_expr (pe_bm PySem.F.plainAttrs_list PySem.F.slot_list_append PySem.F.type_list_append mt_append (pv 6) (pa_cons (pe_tup (pa_cons (pe_ix ix_list (pv 4) (pv 7) (fun _ _ => rfl)) (pa_cons (pe_ix ix_list (pe_lst (pa_cons pe_str (pa_cons pe_str pa_nil))) (pe_ix ix_list (pv 3) (pe_op op_add pe_int (pv 7)) (fun _ _ => rfl)) (fun _ _ => rfl)) pa_nil))) pa_nil)))
      (pss_one (ps_if (pt_cmpR op_eq (pe_ix ix_list (pv 3) (pe_op op_add pe_int (pv 7)) (fun _ _ => rfl)) pe_int (nomark _)) (pss_one (ps_dput (hu_of hr) (pv 5) (pe_ix ix_list (pv 4) (pv 7) (fun _ _ => rfl)) (pe_cmpR op_eq (pe_op o_andM (pe_ix ix_list (pv 3) (pe_op op_add pe_int (pv 7)) (fun _ _ => rfl)) pe_int) pe_int (nomark _)) rfl)) pss_nil)))))
      (pss_cons (ps_set (i := 8) nd rfl (by first | exact .inl rfl | exact .inr rfl) (pe_callTy c_dictD (by rfl) T.dict_ (by decide +kernel) (pa_cons (pv 5) pa_nil)))
      (pss_cons (ps_for PassesOwn.never rfl (pi_list (pe_op op_catL (pe_lst (pa_cons pe_int (pa_cons pe_int pa_nil))) (pe_slice sl_list (pv 0) (po_some pe_int) po_none))) (pg_name (i := 9) nd rfl (by first | exact .inl rfl | exact .inr rfl))
      (pss_cons (ps_set (i := 10) nd rfl (by first | exact .inl rfl | exact .inr rfl) (pe_ix ix_list (pe_lst (pa_cons pe_str (pa_cons pe_str pa_nil))) (pe_op o_andM (pe_callTy c_int (by rfl) T.int_ (by decide +kernel) (pa_cons (pv 9) pa_nil)) pe_int) (fun _ _ => rfl)))
      (pss_cons (ps_set (i := 11) nd rfl (by first | exact .inl rfl | exact .inr rfl) (pe_fn F__law_expr hr__law_expr (by rfl) (pa_cons (pe_op op_fdivW (pe_callTy c_int (by rfl) T.int_ (by decide +kernel) (pa_cons (pv 9) pa_nil)) pe_int) (pa_cons (pv 10) (pa_cons (pv 6) (pa_cons (pe_op o_mod (pe_op op_fdivW (pe_callTy c_int (by rfl) T.int_ (by decide +kernel) (pa_cons (pv 9) pa_nil)) pe_int) pe_int) pa_nil))))))
      (pss_cons (ps_set (i := 2) nd rfl (by first | exact .inl rfl | exact .inr rfl) (pe_fn F_value_of hr_value_of (by rfl) (pa_cons (pv 11) (pa_cons (pv 5) pa_nil))))
      (pss_cons (ps_set (i := 12) nd rfl (by first | exact .inl rfl | exact .inr rfl) (pe_fn F__law_worth hr__law_worth (by rfl) (pa_cons (pv 11) (pa_cons (pv 8) pa_nil))))
      (pss_one (ps_if (PW.pt (pw_or (pt_cmpR op_ne (pv 2) (pv 12) (nomark _)) (pw_or (pt_cmpR op_ne (pe_callB isi1 (by rfl) T.isinstance_ (by decide +kernel) (pa_cons (pv 2) (pa_cons (pe_bltn (v := .ty "bool") (u := .type "bool") (by rfl) T.bool_ (by decide +kernel) rfl) pa_nil))) (pe_cmpR op_eq (pv 10) pe_str (nomark _)) (nomark _)) (pw_or (pt_not (pt_val (pe_callB isi1 (by rfl) T.isinstance_ (by decide +kernel) (pa_cons (pv 2) (pa_cons (pe_bltn (v := .ty "int") (u := .type "int") (by rfl) T.int_ (by decide +kernel) rfl) pa_nil))))) (pw_or1 (pt_cmpR (op_ne_dictA hr.units0) (pv 5) (pv 8) (nomark _))))))) (pss_one (ps_ret pe_bl)) pss_nil)))))))
      (pss_one (ps_ret pe_bl)))))))))), ?_⟩
  -- the numbers
  refine q_forNLn (xs := ([1000000000, -1000000000, 1000000001, -1000000001, 0, 3000000000] ++ ns).map V.int) (EvL.cast (el_cat (K := K) (EvL.p (xs := [.int 1000000000, .int (-1000000000), .int 1000000001, .int (-1000000001), .int 0, .int 3000000000])
      (el_lst (ea_cons ev_c (ea_cons (ev_un ev_c ru_neg) (ea_cons ev_c (ea_cons (ev_un ev_c ru_neg) (ea_cons ev_c (ea_cons ev_c ea_nil)))))) (by decide))) (ep_var rfl mono_L ⟨a, rfl, hS⟩) (by
        rw [List.length_map]
        show 6 + _ ≤ _
        omega)) (by rw [List.map_append]; rfl))
    (fun p i σ H' => (∃ o1 o2, σ = [some (.ref a), o1, o2, none, none, none, none, none, none, none, none, none, none]) ∧ Evl.Ex H H' ∧ H' p = some (.lst (([1000000000, -1000000000, 1000000001, -1000000001, 0, 3000000000] ++ ns).map V.int)))
    (fun p H1 _ s1 e1 => ⟨⟨none, none, rfl⟩, s1, e1⟩) (fun p i σ H' _ ⟨_, _, e⟩ => sq_of e) ?_ ?_
  · rintro p i y σ H' hi ⟨⟨o1, o2, rfl⟩, S, e1⟩
    obtain ⟨n, rfl⟩ : ∃ n, y = V.int n := by
      rw [List.getElem?_map] at hi
      obtain ⟨n, _, e⟩ := Option.map_eq_some_iff.mp hi
      exact ⟨n, e.symm⟩
    refine qp_asg (ep_call (ap_cons mono_V (Ev.p (ev_int (ev_var rfl))) ap_nil) sp_fit) fun r H1 s1 er => ?_
    obtain rfl : r = V.int (fit n) := er
    refine q_when (b := false) (et_is (et_or (et_not (et_B (ev_isi (ev_var rfl) (fun _ _ => .base (.int _)) (b := true) (by decide +kernel)))) fun _ => et_or (et_B (ev_isi (ev_var rfl) (fun _ _ => .base (.int _)) (b := false) (by decide +kernel))) fun _ =>
      et_test (ev_op (ev_var rfl) (EvP.val (ep_call (ap_cons mono_V (Ev.p (ev_int (ev_var rfl))) ap_nil) sp_fit)) (rv_ne rfl))) (by rw [decide_eq_true rfl]; rfl)) (fun h => by cases h) (fun _ H2 s2 => ?_)
    refine q_when (b := false) (et_is (et_or (et_not (et_test (ev_chain (ev_un ev_c ru_neg) (ev_var rfl) rv_I0 (fun _ => ev_c) fun _ => rv_I0))) fun _ =>
      et_test (ev_op (ev_op (ev_int (ev_op (ev_var rfl) (ev_int (ev_var rfl)) rv_I0)) ev_c (rv_I (by unfold CPos; decide))) ev_c (rv_ne rfl))) ?_) (fun h => by cases h) (fun _ H3 s3 => ?_)
    · have b1 : decide (-1000000000 ≤ fit n) = true := decide_eq_true (by
        have := Int.emod_nonneg (n + 1000000000) (by decide : (2000000001 : Int) ≠ 0)
        unfold fit
        omega)
      have b2 : decide (fit n ≤ 1000000000) = true := decide_eq_true (by
        have := Int.emod_lt_of_pos (n + 1000000000) (by decide : (0 : Int) < 2000000001)
        unfold fit
        omega)
      have b3 : (fit n - n) % 2000000001 = 0 := by
        unfold fit
        omega
      rw [b1, b2, b3, decide_eq_true rfl]
      rfl
    refine s_when (b := false) (et_is (et_and (et_test (ev_chain (ev_un ev_c ru_neg) (ev_var rfl) rv_I0 (fun _ => ev_c) fun _ => rv_I0)) fun _ => et_test (ev_op (ev_var rfl) (ev_var rfl) (rv_ne rfl))) ?_) (fun h => by cases h) (fun _ H4 s4 => ?_)
    · rw [eqI]
      by_cases c : -1000000000 ≤ n ∧ n ≤ 1000000000
      · have e : fit n = n := by
          unfold fit
          omega
        rw [e, decide_eq_true rfl, Bool.and_eq_false_iff]
        exact .inr rfl
      · have e : (decide (-1000000000 ≤ n) && decide (n ≤ 1000000000)) = false := by
          rw [Bool.and_eq_false_iff, decide_eq_false_iff_not, decide_eq_false_iff_not]
          omega
        rw [e]
        rfl
    exact ⟨⟨some (.int n), some (.int (fit n)), rfl⟩, (((S.trans s1).trans s2).trans s3).trans s4, s4 _ _ (s3 _ _ (s2 _ _ (s1 _ _ e1)))⟩
  rintro p σ H1 ⟨⟨o1, o2, rfl⟩, S1, _⟩
  -- the draws and the names
  have hS1 : SqL K H1 a (ns.map V.int) := ex_l S1 hS
  refine qp_asg (ep_call (ap_cons mono_V (ep_call (P := isV (.int (ns.getD 0 0))) (ap_cons mono_L (ep_var rfl mono_L ⟨a, rfl, hS1⟩) (ap_cons mono_V (Ev.p ev_c) ap_nil)) (sp_cell rfl))
    (ap_cons mono_L (EvL.p (EvL.cast (ys := limsL.map V.int) (el_cat (K := K) (EvL.p (el_cat (K := K) (EvL.p (el_lst (ea_cons ev_c ea_nil) (by decide))) (EvL.p (el_rep (el_lst (ea_cons ev_c ea_nil) (by decide)) (fun _ _ => ev_c) (by decide) (by decide) (by decide))) (by decide +kernel)))
      (EvL.p (el_rep (el_lst (ea_cons ev_c ea_nil) (by decide)) (fun _ _ => ev_c) (by decide) (by decide) (by decide))) (by decide +kernel)) (by decide +kernel))) ap_nil)) (sp_draws (by decide) limsL_ok)) fun vd H2 s2 ⟨d, ed, hD⟩ => ?_
  subst ed
  have hP := draws_ok (c := ns.getD 0 0) (ls := limsL) fun l h => (limsL_ok l h).1
  have hPl := hP.length
  have hlim : limsL.length = 17 := by decide +kernel
  have lim2 : ∀ i, i < 8 → limsL.getD (1 + i) 0 = 2 ∧ limsL.getD (9 + i) 0 = 2000000001 := by decide +kernel
  have hb0 : 0 ≤ (drawsF (ns.getD 0 0) limsL).getD 0 0 ∧ (drawsF (ns.getD 0 0) limsL).getD 0 0 < 8 := paired_get hP 0 (by omega)
  have hb2 : ∀ k < 8, 0 ≤ (drawsF (ns.getD 0 0) limsL).getD (1 + k) 0 ∧ (drawsF (ns.getD 0 0) limsL).getD (1 + k) 0 < 2 := fun k hk => by
    have z := paired_get hP (1 + k) (by omega)
    rw [(lim2 k hk).1] at z
    exact z
  have hb9 : ∀ k < 8, 0 ≤ (drawsF (ns.getD 0 0) limsL).getD (9 + k) 0 ∧ (drawsF (ns.getD 0 0) limsL).getD (9 + k) 0 < 2000000001 := fun k hk => by
    have z := paired_get hP (9 + k) (by omega)
    rw [(lim2 k hk).2] at z
    exact z
  generalize hds : drawsF (ns.getD 0 0) limsL = ds at *
  rw [hlim] at hPl
  have at_d : ∀ z : Nat, z < 17 → atI (ds.map V.int) (z : Int) = some (.int (ds.getD z 0)) := fun z h1 => by
    have y := atI_int (xs := ds) (z := (z : Int)) (by omega) (by omega)
    rw [Int.toNat_natCast] at y
    exact y
  have at0 : atI (ds.map V.int) 0 = some (.int (ds.getD 0 0)) := at_d 0 (by decide)
  obtain ⟨n, hnz⟩ : ∃ n : Nat, 1 + ds.getD 0 0 = (n : Int) := ⟨(1 + ds.getD 0 0).toNat, by omega⟩
  have hn8 : n ≤ 8 := by omega
  have hS2 := ex_l s2 hS1
  refine qp_asg (ep_call (ap_cons mono_V (ep_call (P := isV (.int (ns.getD 1 0))) (ap_cons mono_L (ep_var rfl mono_L ⟨a, rfl, hS2⟩) (ap_cons mono_V (Ev.p ev_c) ap_nil)) (sp_cell rfl)) (ap_cons mono_V (Ev.p (ev_op ev_c (ev_ixL (ev_var rfl) ev_c hD at0) rv_I0)) ap_nil)) (sp_names hnz (by omega))) fun vn H3 s3 ⟨nl, en, hN⟩ => ?_
  subst en
  have hnl := names_len (ns.getD 1 0) n
  have hnd := names_nodup (ns.getD 1 0) n (by omega)
  generalize hnm : namesF (ns.getD 1 0) n = nm at *
  have hD3 := ex_l s3 hD
  -- the values
  refine q_asgD fun dv H4 hdv s4 e4 => ?_
  refine q_asgL (el_lst ea_nil (by decide)) fun sv H5 hsv s5 e5 => ?_
  have ne : dv ≠ sv := fun e => by rw [e] at e4; rw [hsv] at e4; cases e4
  have hsv3 : H3 sv = none := fresh_back s4 hsv
  have hlen : ((nm.map V.str).length : Int) = (n : Int) := by rw [List.length_map, hnl]
  refine q_forR1 (n := (n : Int)) (ea_cons (ev_is (ev_len (ev_var rfl) (ex_l (s4.trans s5) hN)) (congrArg V.int hlen)) ea_nil) ⟨by omega, by omega⟩ (fun k σ H' => ∃ o7 ts, σ = [some (.ref a), o1, o2, some (.ref d), some (.ref nl), some (.ref dv), some (.ref sv), o7, none, none, none, none, none] ∧ Evl.Ex H3 H' ∧
      H' dv = some (.dK (entF ds nm k)) ∧ H' sv = some (.lst (ts.map V.ref)) ∧ Paired (fun t p => H' t = some (.tup [.str p.1, .str (kstr p.2)])) ts (seenF ds nm k))
    (fun H6 s6 => ⟨none, [], rfl, (s4.trans s5).trans s6, s6 _ _ (s5 _ _ e4), s6 _ _ e5, .nil⟩) ?_ ?_
  · rintro k σ H' hk ⟨o7, ts, rfl, S, ed, es, pr⟩
    have hk8 : k < 8 := by omega
    have hkn : k < nm.length := by omega
    have atk : ∀ H1, Evl.Ex H' H1 → Ev (tOp (rIxL K) (tVar 3) (tOp (rI0 fun i j => .int (i + j)) (tC (.int 9)) (tVar 7))) [some (.ref a), o1, o2, some (.ref d), some (.ref nl), some (.ref dv), some (.ref sv), some (.int k), none, none, none, none, none] H1 (.int (ds.getD (9 + k) 0)) :=
      fun H1 e => ev_ixL (ev_var rfl) (ev_op ev_c (ev_var rfl) rv_I0) (ex_l (S.trans e) hD3) (at_d (9 + k) (by omega))
    have at1 : ∀ H1, Evl.Ex H3 H1 → Ev (tOp (rIxL K) (tVar 3) (tOp (rI0 fun i j => .int (i + j)) (tC (.int 1)) (tVar 7))) [some (.ref a), o1, o2, some (.ref d), some (.ref nl), some (.ref dv), some (.ref sv), some (.int k), none, none, none, none, none] H1 (.int (ds.getD (1 + k) 0)) :=
      fun H1 e => ev_ixL (ev_var rfl) (ev_op ev_c (ev_var rfl) rv_I0) (ex_l e hD3) (at_d (1 + k) (by omega))
    have atn : ∀ H1, Evl.Ex H3 H1 → Ev (tOp (rIxL K) (tVar 4) (tVar 7)) [some (.ref a), o1, o2, some (.ref d), some (.ref nl), some (.ref dv), some (.ref sv), some (.int k), none, none, none, none, none] H1 (.str (nm.getD k "")) :=
      fun H1 e => ev_is (ev_ixL (ev_var rfl) (ev_var rfl) (ex_l e hN) (atI_str (xs := nm) (z := (k : Int)) (by omega) (by omega))) (by rw [Int.toNat_natCast])
    have hb := hb9 k hk8
    have hc := hb2 k hk8
    have fr := ent_new (ds := ds) hnd (n := k) hkn
    refine q_dput (k := .inr (nm.getD k "")) (v := .int (vlI (ds.getD (9 + k) 0))) (ev_op (ev_op (atk H' (Evl.Ex.refl _)) ev_c rv_I0) (ev_ixN (xs := ([1, 1, 1000003] : List Int).map V.int) (el_lst (ea_cons ev_c (ea_cons ev_c (ea_cons ev_c ea_nil))) (by decide))
        (fun H1 e => ev_op (ev_int (atk H1 e)) ev_c (rv_I (by unfold CPos; decide))) (atI_int (Int.emod_nonneg _ (by decide)) (by
          have z := Int.emod_lt_of_pos (ds.getD (9 + k) 0) (by decide : (0 : Int) < 3)
          exact z))) (rv_I (.inl ⟨by omega, by omega⟩))) (ev_var rfl) (atn H' S) ed (by unfold entF; rw [List.length_map, List.length_range]; omega) fun H6 s6 => ?_
    rw [putK_new _ (valV_none fr)]
    have S6 : Evl.Ex H3 (upd H6 dv (.dK (entF ds nm k ++ [(.inr (nm.getD k ""), .int (vlI (ds.getD (9 + k) 0)))]))) := Evl.Ex.mut (S.trans s6) hdv
    have es6 : upd H6 dv (.dK (entF ds nm k ++ [(.inr (nm.getD k ""), .int (vlI (ds.getD (9 + k) 0)))])) sv = some (.lst (ts.map V.ref)) := by
      rw [upd_ne ne.symm]
      exact s6 _ _ es
    have ed6 : upd H6 dv (.dK (entF ds nm k ++ [(.inr (nm.getD k ""), .int (vlI (ds.getD (9 + k) 0)))])) dv = some (.dK (entF ds nm k ++ [(.inr (nm.getD k ""), .int (vlI (ds.getD (9 + k) 0)))])) := upd_same
    have pr6 : Paired (fun t p => upd H6 dv (.dK (entF ds nm k ++ [(.inr (nm.getD k ""), .int (vlI (ds.getD (9 + k) 0)))])) t = some (.tup [.str p.1, .str (kstr p.2)])) ts (seenF ds nm k) := L2.Paired.mapP pr fun t p h => by
      rw [upd_ne (ne_of (s6 _ _ h) (s6 _ _ ed) (by intro z; cases z))]
      exact s6 _ _ h
    generalize upd H6 dv (.dK (entF ds nm k ++ [(.inr (nm.getD k ""), .int (vlI (ds.getD (9 + k) 0)))])) = H7 at *
    have hks : Ev (tOp (rIxL K) (tLst (tCons (tC (.str "int")) (tCons (tC (.str "bool")) tNil))) (tOp (rIxL K) (tVar 3) (tOp (rI0 fun i j => .int (i + j)) (tC (.int 1)) (tVar 7)))) [some (.ref a), o1, o2, some (.ref d), some (.ref nl), some (.ref dv), some (.ref sv), some (.int k), none, none, none, none, none] H7 (.str (kstr (decide (ds.getD (1 + k) 0 = 0)))) :=
      ev_is (ev_ixN (xs := (["int", "bool"] : List Str).map V.str) (el_lst (ea_cons ev_c (ea_cons ev_c ea_nil)) (by decide)) (fun H1 e => at1 H1 (S6.trans e)) (atI_str hc.1 hc.2)) (by
        have c : ds.getD (1 + k) 0 = 0 ∨ ds.getD (1 + k) 0 = 1 := by omega
        rcases c with c | c <;> rw [c] <;> rfl)
    refine q_appU (xs := ts.map V.ref) (ys := [.str (nm.getD k ""), .str (kstr (decide (ds.getD (1 + k) 0 = 0)))]) es6 (ev_var rfl) (eu_tup (ea_cons (atn H7 S6) (ea_cons hks ea_nil)) (by show 2 ≤ 100000; decide)) (by
      have z := pr.length
      unfold seenF at z
      rw [List.length_map, List.length_range] at z
      rw [List.length_map]
      omega) fun t H8 ht s8 e8 => ?_
    have S8 : Evl.Ex H3 (upd H8 sv (.lst (ts.map V.ref ++ [.ref t]))) := Evl.Ex.mut (S6.trans s8) hsv3
    have ed8 : upd H8 sv (.lst (ts.map V.ref ++ [.ref t])) dv = some (.dK (entF ds nm k ++ [(.inr (nm.getD k ""), .int (vlI (ds.getD (9 + k) 0)))])) := by
      rw [upd_ne ne]
      exact s8 _ _ ed6
    have es8 : upd H8 sv (.lst (ts.map V.ref ++ [.ref t])) sv = some (.lst ((ts ++ [t]).map V.ref)) := by
      rw [upd_same, List.map_append]
      rfl
    have pr8 : Paired (fun t0 p => upd H8 sv (.lst (ts.map V.ref ++ [.ref t])) t0 = some (.tup [.str p.1, .str (kstr p.2)])) (ts ++ [t]) (seenF ds nm (k + 1)) := by
      have e : seenF ds nm (k + 1) = seenF ds nm k ++ [(nm.getD k "", decide (ds.getD (1 + k) 0 = 0))] := by
        unfold seenF
        rw [List.range_succ, List.map_append]
        rfl
      rw [e]
      refine SB.Paired.snoc (L2.Paired.mapP pr6 fun t0 p h => ?_) ?_
      · rw [upd_ne (ne_of (s8 _ _ h) (s8 _ _ es6) (by intro z; cases z))]
        exact s8 _ _ h
      · show upd H8 sv _ t = _
        rw [upd_ne (ne_of e8 (s8 _ _ es6) (by intro z; cases z))]
        exact e8
    generalize upd H8 sv (.lst (ts.map V.ref ++ [.ref t])) = H9 at *
    have ek1 : entF ds nm (k + 1) = entF ds nm k ++ [(.inr (nm.getD k ""), vlF ds k)] := by
      unfold entF
      rw [List.range_succ, List.map_append]
      rfl
    refine s_when (b := decide (ds.getD (1 + k) 0 = 1)) (et_is (et_test (ev_op (at1 H9 S8) ev_c (rv_eq rfl))) (eqI _ _)) (fun hc1 H10 s10 => ?_) (fun hc1 H10 s10 => ?_)
    · have ev : vlF ds k = .bl (decide (ds.getD (9 + k) 0 % 2 = 1)) := if_pos (of_decide_eq_true hc1)
      refine s_dput (k := .inr (nm.getD k "")) (v := vlF ds k) (ev_is (ev_op (ev_op (ev_ixL (ev_var rfl) (ev_op ev_c (ev_var rfl) rv_I0) (ex_l (S8.trans s10) hD3) (at_d (9 + k) (by omega))) ev_c rv_and1) ev_c (rv_eq rfl)) (by rw [ev, eqI])) (ev_var rfl) (atn H10 (S8.trans s10)) (s10 _ _ ed8) (by unfold entF; rw [List.length_append, List.length_map, List.length_range]; show k + 1 < _; omega) fun H11 s11 => ?_
      rw [put_again fr, ← ek1]
      refine ⟨some (.int k), ts ++ [t], rfl, Evl.Ex.mut ((S8.trans s10).trans s11) hdv, upd_same, ?_, L2.Paired.mapP pr8 fun t0 p h => ?_⟩
      · rw [upd_ne ne.symm]
        exact s11 _ _ (s10 _ _ es8)
      · rw [upd_ne (ne_of (s11 _ _ (s10 _ _ h)) (s11 _ _ (s10 _ _ ed8)) (by intro z; cases z))]
        exact s11 _ _ (s10 _ _ h)
    · have ev : vlF ds k = .int (vlI (ds.getD (9 + k) 0)) := if_neg (of_decide_eq_false hc1)
      refine ⟨some (.int k), ts ++ [t], rfl, S8.trans s10, ?_, s10 _ _ es8, L2.Paired.mapP pr8 fun t0 p h => s10 _ _ h⟩
      rw [ek1, ev]
      exact s10 _ _ ed8
  rintro σ H6 ⟨o7, ts, rfl, S6, ed6, es6, pr6⟩
  rw [Int.toNat_natCast] at ed6 pr6
  have hok : SeenOk (entF ds nm n) (seenF ds nm n) := seen_ok hnd hnl.symm (fun k hk => hb2 k (by omega)) (fun k hk => hb9 k (by omega))
  have hsame : ∀ p ∈ entF ds nm n, valV (entF ds nm n) p.1 = some p.2 ∧ flatB p.2 = true := fun p hp => ⟨valV_mem (ent_nd hnd n (by omega)) hp, ent_flat p hp⟩
  have hsl : (seenF ds nm n).length ≤ 1000 := by
    unfold seenF
    rw [List.length_map, List.length_range]
    omega
  have hseen : Dp K H6 (.ref sv) (seenD (seenF ds nm n)) := .lst (sq_of es6) (by
    clear hsl hsame hok
    generalize seenF ds nm n = sn at pr6
    clear es6
    induction pr6 with
    | nil => exact .nil
    | cons h _ ih => exact .cons (.tup (st_of h) (.cons (.str _) (.cons (.str _) .nil))) ih)
  refine q_dictD (ev_var rfl) ed6 fun kp H7 _ s7 e7 => ?_
  have hcut : ∃ ms : List Int, cutV (ns.map V.int) (some 2) none = ms.map V.int ∧ ms.length ≤ 63 := ⟨(ns.drop _).take _, by unfold cutV; rw [← List.map_drop, ← List.map_take], by
    rw [List.length_take, List.length_drop]
    omega⟩
  obtain ⟨ms, hms, hml⟩ := hcut
  have hS7 : SqL K H7 a (ns.map V.int) := ex_l ((s3.trans S6).trans s7) hS2
  refine q_forNLn (xs := ([0, 1] ++ ms).map V.int) (EvL.cast (el_cat (K := K) (EvL.p (xs := [.int 0, .int 1]) (el_lst (ea_cons ev_c (ea_cons ev_c ea_nil)) (by decide))) (EvL.p (el_sl (ev_var rfl) (eo_some ev_c) eo_none hS7)) (by
      rw [hms, List.length_map]
      show 2 + _ ≤ _
      omega)) (by rw [hms, List.map_append]; rfl))
    (fun p i σ H' => (∃ o2 o9 o10 o11 o12, σ = [some (.ref a), o1, o2, some (.ref d), some (.ref nl), some (.ref dv), some (.ref sv), o7, some (.ref kp), o9, o10, o11, o12]) ∧ Evl.Ex H7 H' ∧ H' p = some (.lst (([0, 1] ++ ms).map V.int)))
    (fun p H1 _ s1 e1 => ⟨⟨o2, none, none, none, none, rfl⟩, s1, e1⟩) (fun p i σ H' _ ⟨_, _, e⟩ => sq_of e) ?_ ?_
  · rintro p i y σ H' hi ⟨⟨o2', o9, o10, o11, o12, rfl⟩, S, e1⟩
    obtain ⟨c, rfl⟩ : ∃ c, y = V.int c := by
      rw [List.getElem?_map] at hi
      obtain ⟨n, _, e⟩ := Option.map_eq_some_iff.mp hi
      exact ⟨n, e.symm⟩
    have z0 := Int.emod_nonneg c (by decide : (2 : Int) ≠ 0)
    have z1 := Int.emod_lt_of_pos c (by decide : (0 : Int) < 2)
    refine q_asg (v := .str (kstr (decide (c % 2 = 0)))) (ev_is (ev_ixN (xs := (["int", "bool"] : List Str).map V.str) (el_lst (ea_cons ev_c (ea_cons ev_c ea_nil)) (by decide)) (fun H1 e => ev_op (ev_int (ev_var rfl)) ev_c rv_and1) (atI_str z0 z1)) (by
        have cc : c % 2 = 0 ∨ c % 2 = 1 := by omega
        rcases cc with cc | cc <;> rw [cc] <;> rfl)) fun H8 s8 => ?_
    generalize hk : decide (c % 2 = 0) = k
    have hd0 := Int.emod_nonneg (c / 2) (by decide : (8 : Int) ≠ 0)
    have hd1 := Int.emod_lt_of_pos (c / 2) (by decide : (0 : Int) < 8)
    obtain ⟨dp, hdp⟩ : ∃ dp : Nat, c / 2 % 8 = (dp : Int) := ⟨(c / 2 % 8).toNat, by omega⟩
    have S8 := (s7.trans S).trans s8
    have wd : CDivW c 2 := wide_div (by decide) (b := 64) (by decide) (by decide) (by decide)
    refine qp_asg (ep_call (ap_cons mono_V (Ev.p (ev_op (ev_int (ev_var rfl)) ev_c (rv_I wd))) (ap_cons mono_V (Ev.p (ev_var rfl)) (ap_cons mono_D (ep_var rfl mono_D (Dp.mono S8 hseen)) (ap_cons mono_V (Ev.p (ev_op (ev_op (ev_int (ev_var rfl)) ev_c (rv_I wd)) ev_c (rv_I (by unfold CPos; decide)))) ap_nil)))) (sp_expr hsl (show dp < 8 by omega) hdp)) fun ve H9 s9 hve => ?_
    have hwell := exprF_ok hok dp (c / 2) k
    generalize exprF (seenF ds nm n) dp (c / 2) k = tm at *
    have S9 := S8.trans s9
    refine qp_asg (ep_call (ap_cons mono_D (ep_var rfl mono_D hve) (ap_cons mono_Dct (ep_var rfl mono_Dct ⟨dv, rfl, S9 _ _ ed6⟩) ap_nil)) (sp_val hwell (by omega))) fun r H10 s10 er => ?_
    obtain rfl : r = worthF (entF ds nm n) tm := er
    have S10 := S9.trans s10
    have e7' : H10 kp = some (.dK (entF ds nm n)) := s10 _ _ (s9 _ _ (s8 _ _ (S _ _ e7)))
    refine qp_asg (ep_call (ap_cons mono_D (ep_var rfl mono_D (Dp.mono s10 hve)) (ap_cons mono_Dct (ep_var rfl mono_Dct ⟨kp, rfl, e7'⟩) ap_nil)) (sp_val hwell (by omega))) fun r H11 s11 er => ?_
    obtain rfl : r = worthF (entF ds nm n) tm := er
    have hv := ok_val hwell
    generalize worthF (entF ds nm n) tm = v at *
    have S11 := S10.trans s11
    have tests : ∀ (kt : String) (bb bi : Bool), scal v v = true → (∀ H1, TyX K H1 v (.type kt)) → kitB kt "bool" = some bb → kitB kt "int" = some true → (!decide (V.bl bb = V.bl (decide (V.str (kstr k) = V.str "bool")))) = false →
        EvT (tOr (tTest (tOp rNe (tVar 2) (tVar 12))) (tOr (tTest (tOp rNe (tCB (rIsi K) (tCons (tVar 2) (tCons (tC (.ty "bool")) tNil))) (tOp rEq (tVar 10) (tC (.str "bool"))))) (tOr (tNot (tB (tCB (rIsi K) (tCons (tVar 2) (tCons (tC (.ty "int")) tNil))))) (tTest (tOp rNeDA (tVar 5) (tVar 8))))))
          [some (.ref a), o1, some v, some (.ref d), some (.ref nl), some (.ref dv), some (.ref sv), o7, some (.ref kp), some (.int c), some (.str (kstr k)), some ve, some v] H11 false := fun kt bb bi h1 h2 h3 h4 h5 =>
      et_is (et_or (et_test (ev_op (ev_var rfl) (ev_var rfl) (rv_ne h1))) fun _ => et_or (et_test (ev_op (ev_isi (ev_var rfl) (fun H1 _ => h2 H1) h3) (ev_op (ev_var rfl) ev_c (rv_eq rfl)) (rv_ne rfl))) fun _ =>
        et_or (et_not (et_B (ev_isi (ev_var rfl) (fun H1 _ => h2 H1) h4))) fun _ => et_test (ev_op (ev_var rfl) (ev_var rfl) (rv_neD (S11 _ _ ed6) (s11 _ _ e7') hsame))) (by
          rw [h5, decide_eq_true rfl]
          rfl)
    refine s_when (b := false) ?_ (fun h => by cases h) (fun _ H12 s12 => ?_)
    · cases k with
      | true =>
        obtain ⟨i, rfl, _⟩ := hv
        exact tests "int" false false rfl (fun _ => .base (.int i)) (by decide +kernel) (by decide +kernel) (by decide +kernel)
      | false =>
        obtain ⟨b, rfl⟩ := hv
        exact tests "bool" true false rfl (fun _ => .base (.bl b)) (by decide +kernel) (by decide +kernel) (by decide +kernel)
    · exact ⟨⟨some v, some (.int c), some (.str (kstr k)), some ve, some v, rfl⟩, ((((S.trans s8).trans s9).trans s10).trans s11).trans s12, s12 _ _ (s11 _ _ (s10 _ _ (s9 _ _ (s8 _ _ e1))))⟩
  rintro p σ H8 ⟨⟨o2', o9, o10, o11, o12, rfl⟩, _, _⟩
  exact s_ret ev_c fun H9 _ => q H9
end
end SB

set_option Elab.async false
set_option linter.all false
set_option maxRecDepth 100000
namespace SB
open PySem L2 Evl
theorem all_mk {l : PySem.W.OpenLaw} {w : World} {K : PySem.W.Frag} {h : Heap} {mg : Str → Option Value} {fa f0 f1 f2 f3 f4 f5 f6 f7 f8 f9 f10 : Addr} (X : K.In h) (G : h.Ns mainGlobals mg) (hfa : mg "law" = some (.ref fa))
    {od0 an0 od1 an1 od2 an2 od3 an3 od4 an4 od5 an5 od6 an6 od7 an7 od8 an8 od9 an9 od10 an10 : Option Addr} {sl0 sl1 sl2 sl3 sl4 sl5 sl6 sl7 sl8 sl9 sl10 : Array (Option Value)} {oc0 kV0 dc0 pm0 cd0 ct0 oc1 kV1 dc1 pm1 cd1 ct1 oc2 kV2 dc2 pm2 cd2 ct2 oc3 kV3 dc3 pm3 cd3 ct3 oc4 kV4 dc4 pm4 cd4 ct4 oc5 kV5 dc5 pm5 cd5 ct5 oc6 kV6 dc6 pm6 cd6 ct6 oc7 kV7 dc7 pm7 cd7 ct7 oc8 kV8 dc8 pm8 cd8 ct8 oc9 kV9 dc9 pm9 cd9 ct9 oc10 kV10 dc10 pm10 cd10 ct10 : Value} {tkGREATEST tkNUMBERS : Tok}
    (a0 : PySem.W.nsIn K mainGlobals "fitted" = some (some (.ref f0))) (l0 : K.lookup f0 = some ⟨oc0, od0, .func (PySem.W.fnOf "fitted" "fitted" (defArgs s_fitted) (defBody s_fitted) (defScope s_fitted) .none kV0 dc0 pm0 an0 cd0 ct0), sl0⟩) (c0 : PySem.W.codeIn K cd0 "fitted" = true) (k0 : PySem.W.keepIn K (.ref f0) = true)
    (a1 : PySem.W.nsIn K mainGlobals "value_of" = some (some (.ref f1))) (l1 : K.lookup f1 = some ⟨oc1, od1, .func (PySem.W.fnOf "value_of" "value_of" (defArgs s_value_of) (defBody s_value_of) (defScope s_value_of) .none kV1 dc1 pm1 an1 cd1 ct1), sl1⟩) (c1 : PySem.W.codeIn K cd1 "value_of" = true) (k1 : PySem.W.keepIn K (.ref f1) = true)
    (a2 : PySem.W.nsIn K mainGlobals "applied" = some (some (.ref f2))) (l2 : K.lookup f2 = some ⟨oc2, od2, .func (PySem.W.fnOf "applied" "applied" (defArgs s_applied) (defBody s_applied) (defScope s_applied) .none kV2 dc2 pm2 an2 cd2 ct2), sl2⟩) (c2 : PySem.W.codeIn K cd2 "applied" = true) (k2 : PySem.W.keepIn K (.ref f2) = true)
    (a3 : PySem.W.nsIn K mainGlobals "_law_cell" = some (some (.ref f3))) (l3 : K.lookup f3 = some ⟨oc3, od3, .func (PySem.W.fnOf "_law_cell" "_law_cell" (defArgs s__law_cell) (defBody s__law_cell) (defScope s__law_cell) .none kV3 dc3 pm3 an3 cd3 ct3), sl3⟩) (c3 : PySem.W.codeIn K cd3 "_law_cell" = true) (k3 : PySem.W.keepIn K (.ref f3) = true)
    (a4 : PySem.W.nsIn K mainGlobals "_law_draws" = some (some (.ref f4))) (l4 : K.lookup f4 = some ⟨oc4, od4, .func (PySem.W.fnOf "_law_draws" "_law_draws" (defArgs s__law_draws) (defBody s__law_draws) (defScope s__law_draws) .none kV4 dc4 pm4 an4 cd4 ct4), sl4⟩) (c4 : PySem.W.codeIn K cd4 "_law_draws" = true) (k4 : PySem.W.keepIn K (.ref f4) = true)
    (a5 : PySem.W.nsIn K mainGlobals "_law_reserved" = some (some (.ref f5))) (l5 : K.lookup f5 = some ⟨oc5, od5, .func (PySem.W.fnOf "_law_reserved" "_law_reserved" (defArgs s__law_reserved) (defBody s__law_reserved) (defScope s__law_reserved) .none kV5 dc5 pm5 an5 cd5 ct5), sl5⟩) (c5 : PySem.W.codeIn K cd5 "_law_reserved" = true) (k5 : PySem.W.keepIn K (.ref f5) = true)
    (a6 : PySem.W.nsIn K mainGlobals "_law_names" = some (some (.ref f6))) (l6 : K.lookup f6 = some ⟨oc6, od6, .func (PySem.W.fnOf "_law_names" "_law_names" (defArgs s__law_names) (defBody s__law_names) (defScope s__law_names) .none kV6 dc6 pm6 an6 cd6 ct6), sl6⟩) (c6 : PySem.W.codeIn K cd6 "_law_names" = true) (k6 : PySem.W.keepIn K (.ref f6) = true)
    (a7 : PySem.W.nsIn K mainGlobals "_law_expr" = some (some (.ref f7))) (l7 : K.lookup f7 = some ⟨oc7, od7, .func (PySem.W.fnOf "_law_expr" "_law_expr" (defArgs s__law_expr) (defBody s__law_expr) (defScope s__law_expr) .none kV7 dc7 pm7 an7 cd7 ct7), sl7⟩) (c7 : PySem.W.codeIn K cd7 "_law_expr" = true) (k7 : PySem.W.keepIn K (.ref f7) = true)
    (a8 : PySem.W.nsIn K mainGlobals "_law_fitted" = some (some (.ref f8))) (l8 : K.lookup f8 = some ⟨oc8, od8, .func (PySem.W.fnOf "_law_fitted" "_law_fitted" (defArgs s__law_fitted) (defBody s__law_fitted) (defScope s__law_fitted) .none kV8 dc8 pm8 an8 cd8 ct8), sl8⟩) (c8 : PySem.W.codeIn K cd8 "_law_fitted" = true) (k8 : PySem.W.keepIn K (.ref f8) = true)
    (a9 : PySem.W.nsIn K mainGlobals "_law_worth" = some (some (.ref f9))) (l9 : K.lookup f9 = some ⟨oc9, od9, .func (PySem.W.fnOf "_law_worth" "_law_worth" (defArgs s__law_worth) (defBody s__law_worth) (defScope s__law_worth) .none kV9 dc9 pm9 an9 cd9 ct9), sl9⟩) (c9 : PySem.W.codeIn K cd9 "_law_worth" = true) (k9 : PySem.W.keepIn K (.ref f9) = true)
    (a10 : PySem.W.nsIn K mainGlobals "law" = some (some (.ref f10))) (l10 : K.lookup f10 = some ⟨oc10, od10, .func (PySem.W.fnOf "law" "law" (defArgs s_law) (defBody s_law) (defScope s_law) .none kV10 dc10 pm10 an10 cd10 ct10), sl10⟩) (c10 : PySem.W.codeIn K cd10 "law" = true) (k10 : PySem.W.keepIn K (.ref f10) = true)
    (z_len : PySem.W.nsIn K mainGlobals "len" = some none)
    (z_int : PySem.W.nsIn K mainGlobals "int" = some none)
    (z_abs : PySem.W.nsIn K mainGlobals "abs" = some none)
    (z_str : PySem.W.nsIn K mainGlobals "str" = some none)
    (z_tuple : PySem.W.nsIn K mainGlobals "tuple" = some none)
    (z_isinstance : PySem.W.nsIn K mainGlobals "isinstance" = some none)
    (z_range : PySem.W.nsIn K mainGlobals "range" = some none)
    (z_dict : PySem.W.nsIn K mainGlobals "dict" = some none)
    (z_bool : PySem.W.nsIn K mainGlobals "bool" = some none)
    (z_GREATEST : PySem.W.nsIn K mainGlobals "GREATEST" = some (some (.int 1000000000 tkGREATEST)))
    (z_NUMBERS : PySem.W.nsIn K mainGlobals "NUMBERS" = some (some (.int 2000000001 tkNUMBERS))) :
    ∃ fd : FuncData, (∀ (s : Shared) (v : Value), BindsTo s fd ⟨[v], []⟩ [("script", v)]) ∧ ∀ base : Heap, K.In base → base.Ns mainGlobals mg → FnOk l.prog w K mg base CX0 11 fa fd ["script"] (spLaw K) := by
  have e := hfa.symm.trans (PySem.W.mg_of X G a10)
  cases e
  have F0 := fun_mk (st := s_fitted) l0 c0 k0
  have b0 := F0.binds (ps := ["number"]) fun _ _ _ _ _ _ us hl => match us, hl with | [_], _ => rfl
  have F1 := fun_mk (st := s_value_of) l1 c1 k1
  have b1 := F1.binds (ps := ["expression", "values"]) fun _ _ _ _ _ _ us hl => match us, hl with | [_, _], _ => rfl
  have F2 := fun_mk (st := s_applied) l2 c2 k2
  have b2 := F2.binds (ps := ["sign", "parts"]) fun _ _ _ _ _ _ us hl => match us, hl with | [_, _], _ => rfl
  have F3 := fun_mk (st := s__law_cell) l3 c3 k3
  have b3 := F3.binds (ps := ["script", "k"]) fun _ _ _ _ _ _ us hl => match us, hl with | [_, _], _ => rfl
  have F4 := fun_mk (st := s__law_draws) l4 c4 k4
  have b4 := F4.binds (ps := ["cell", "limits"]) fun _ _ _ _ _ _ us hl => match us, hl with | [_, _], _ => rfl
  have F5 := fun_mk (st := s__law_reserved) l5 c5 k5
  have b5 := F5.binds (ps := []) fun _ _ _ _ _ _ us hl => match us, hl with | [], _ => rfl
  have F6 := fun_mk (st := s__law_names) l6 c6 k6
  have b6 := F6.binds (ps := ["cell", "count"]) fun _ _ _ _ _ _ us hl => match us, hl with | [_, _], _ => rfl
  have F7 := fun_mk (st := s__law_expr) l7 c7 k7
  have b7 := F7.binds (ps := ["cell", "kind", "seen", "depth"]) fun _ _ _ _ _ _ us hl => match us, hl with | [_, _, _, _], _ => rfl
  have F8 := fun_mk (st := s__law_fitted) l8 c8 k8
  have b8 := F8.binds (ps := ["number"]) fun _ _ _ _ _ _ us hl => match us, hl with | [_], _ => rfl
  have F9 := fun_mk (st := s__law_worth) l9 c9 k9
  have b9 := F9.binds (ps := ["expression", "values"]) fun _ _ _ _ _ _ us hl => match us, hl with | [_, _], _ => rfl
  have F10 := fun_mk (st := s_law) l10 c10 k10
  have T : Txt K mg := ⟨PySem.W.mg_none_of X G z_len, PySem.W.mg_none_of X G z_int, PySem.W.mg_none_of X G z_abs, PySem.W.mg_none_of X G z_str, PySem.W.mg_none_of X G z_tuple, PySem.W.mg_none_of X G z_isinstance, PySem.W.mg_none_of X G z_range, PySem.W.mg_none_of X G z_dict, PySem.W.mg_none_of X G z_bool, ⟨_, PySem.W.mg_of X G z_GREATEST⟩, ⟨_, PySem.W.mg_of X G z_NUMBERS⟩⟩
  refine ⟨PySem.W.fnOf "law" "law" (defArgs s_law) (defBody s_law) (defScope s_law) .none kV10 dc10 pm10 an10 cd10 ct10, fun s v => .of_eq rfl, fun base _ _ => ?_⟩
  have H_fitted : Fn l.prog w K mg base 1 "fitted" ["number"] spFit := ⟨⟨f0, _, PySem.W.mg_of X G a0, k0, b0, ok_fitted F0 T⟩⟩
  have H__law_fitted : Fn l.prog w K mg base 1 "_law_fitted" ["number"] spFit := ⟨⟨f8, _, PySem.W.mg_of X G a8, k8, b8, ok__law_fitted F8 T⟩⟩
  have H__law_cell : Fn l.prog w K mg base 1 "_law_cell" ["script", "k"] (spCell K) := ⟨⟨f3, _, PySem.W.mg_of X G a3, k3, b3, ok__law_cell F3 T⟩⟩
  have H__law_draws : Fn l.prog w K mg base 1 "_law_draws" ["cell", "limits"] (spDraws K) := ⟨⟨f4, _, PySem.W.mg_of X G a4, k4, b4, ok__law_draws F4 T⟩⟩
  have H__law_reserved : Fn l.prog w K mg base 1 "_law_reserved" [] (spRes K) := ⟨⟨f5, _, PySem.W.mg_of X G a5, k5, b5, ok__law_reserved F5⟩⟩
  have H__law_names : Fn l.prog w K mg base 2 "_law_names" ["cell", "count"] (spNames K) := ⟨⟨f6, _, PySem.W.mg_of X G a6, k6, b6, ok__law_names F6 T H__law_draws H__law_reserved⟩⟩
  have H_applied : Fn l.prog w K mg base 2 "applied" ["sign", "parts"] (spApp K) := ⟨⟨f2, _, PySem.W.mg_of X G a2, k2, b2, ok_applied F2 H_fitted⟩⟩
  have noE : ∀ vs H Q E, ¬ spExpr K 0 vs H Q E := fun vs H Q E h => by
    obtain ⟨_, _, _, _, _, _, _, _, h, _⟩ := h
    omega
  have noV : ∀ vs H Q E, ¬ spVal K 0 vs H Q E := fun vs H Q E h => by
    obtain ⟨_, _, _, _, _, _, _, _, _, _, h, _⟩ := h
    omega
  have H__law_expr : ∀ n, Fn l.prog w K mg base (n + 1) "_law_expr" ["cell", "kind", "seen", "depth"] (spExpr K n) := fun n => by
    induction n with
    | zero => exact ⟨⟨f7, _, PySem.W.mg_of X G a7, k7, b7, ⟨fun vs H Q E h => absurd h (noE vs H Q E), fun A outer s H args us vs Q E _ _ _ _ h => absurd h (noE vs H Q E)⟩⟩⟩
    | succ n ih => exact ⟨⟨f7, _, PySem.W.mg_of X G a7, k7, b7, ok__law_expr F7 T H__law_draws ih⟩⟩
  have H_value_of : ∀ n, Fn l.prog w K mg base (n + 2) "value_of" ["expression", "values"] (spVal K n) := fun n => by
    induction n with
    | zero => exact ⟨⟨f1, _, PySem.W.mg_of X G a1, k1, b1, ⟨fun vs H Q E h => absurd h (noV vs H Q E), fun A outer s H args us vs Q E _ _ _ _ h => absurd h (noV vs H Q E)⟩⟩⟩
    | succ n ih => exact ⟨⟨f1, _, PySem.W.mg_of X G a1, k1, b1, ok_value_of F1 T H_applied ih⟩⟩
  have H__law_worth : ∀ n, Fn l.prog w K mg base (n + 1) "_law_worth" ["expression", "values"] (spVal K n) := fun n => by
    induction n with
    | zero => exact ⟨⟨f9, _, PySem.W.mg_of X G a9, k9, b9, ⟨fun vs H Q E h => absurd h (noV vs H Q E), fun A outer s H args us vs Q E _ _ _ _ h => absurd h (noV vs H Q E)⟩⟩⟩
    | succ n ih => exact ⟨⟨f9, _, PySem.W.mg_of X G a9, k9, b9, ok__law_worth F9 T H__law_fitted ih⟩⟩
  exact ok_law F10 T H_fitted H__law_fitted H__law_cell H__law_draws H__law_names (H__law_expr 8) (H_value_of 8) (H__law_worth 8)
theorem walk {l : PySem.W.OpenLaw} {q : Program} {loose : List Str} {XP : (Str → Option Value) → Heap → Prop} {YP : World → Heap → Prop} {d : DefRec} {K : Params → PySem.W.Frag} (hn : l.most = some 63) (hdf : d.params.defaults = [])
    (hY : ∀ (w : World) (h : Heap), YP w h → (K w.params).In h)
    (F : ∀ (w : World) (mg : Str → Option Value) (fa : Addr) (h : Heap), (K w.params).In h → h.Ns mainGlobals mg → mg d.name = some (.ref fa) →
      ∃ fd : FuncData, (∀ (s : Shared) (u : Value), BindsTo s fd ⟨[u], []⟩ [("script", u)]) ∧ ∀ base : Heap, (K w.params).In base → base.Ns mainGlobals mg → FnOk l.prog w (K w.params) mg base CX0 11 fa fd ["script"] (spLaw (K w.params))) :
    PySem.W.WalkO q loose XP YP l.row.toRowW d [] (fun f vs => PySem.call f vs) :=
  L2.walk_of (n := 63) (k := 11) (x := "script") (CX := fun _ => CX0) (sp := fun w => spLaw (K w.params)) hn (by decide) hdf ⟨rfl, by decide, by decide⟩ hY F (fun _ _ a ns hl _ hS => ⟨a, ns, rfl, hS, hl, fun _ => rfl⟩) fun _ _ _ _ _ z => z
end SB
open PySem PySem.W PyProof.Rows
set_option maxRecDepth 100000 in
set_option maxHeartbeats 0 in
theorem PySem.Challenge.cw_seedbed_k01_values_and_fitted_numbers_holds : PySem.Challenge.rw_seedbed_k01_values_and_fitted_numbers.Holds := by
  w_on; o_law; k_head; (case hw => w_witness2)
  k_fill
  refine SB.walk (l := PySem.Challenge.rw_seedbed_k01_values_and_fitted_numbers) rfl rfl (fun w h Y => PySem.W.kIn_of Y) ?F
  case F =>
    intro w mg fa h KX G hmg
    refine' SB.all_mk KX G hmg ?a0 ?l0 ?c0 ?k0 ?a1 ?l1 ?c1 ?k1 ?a2 ?l2 ?c2 ?k2 ?a3 ?l3 ?c3 ?k3 ?a4 ?l4 ?c4 ?k4 ?a5 ?l5 ?c5 ?k5 ?a6 ?l6 ?c6 ?k6 ?a7 ?l7 ?c7 ?k7 ?a8 ?l8 ?c8 ?k8 ?a9 ?l9 ?c9 ?k9 ?a10 ?l10 ?c10 ?k10 ?z_len ?z_int ?z_abs ?z_str ?z_tuple ?z_isinstance ?z_range ?z_dict ?z_bool ?z_GREATEST ?z_NUMBERS
    (case a0 => k_is); (case l0 => k_is); (case c0 => k_is); (case k0 => k_is)
    (case a1 => k_is); (case l1 => k_is); (case c1 => k_is); (case k1 => k_is)
    (case a2 => k_is); (case l2 => k_is); (case c2 => k_is); (case k2 => k_is)
    (case a3 => k_is); (case l3 => k_is); (case c3 => k_is); (case k3 => k_is)
    (case a4 => k_is); (case l4 => k_is); (case c4 => k_is); (case k4 => k_is)
    (case a5 => k_is); (case l5 => k_is); (case c5 => k_is); (case k5 => k_is)
    (case a6 => k_is); (case l6 => k_is); (case c6 => k_is); (case k6 => k_is)
    (case a7 => k_is); (case l7 => k_is); (case c7 => k_is); (case k7 => k_is)
    (case a8 => k_is); (case l8 => k_is); (case c8 => k_is); (case k8 => k_is)
    (case a9 => k_is); (case l9 => k_is); (case c9 => k_is); (case k9 => k_is)
    (case a10 => k_is); (case l10 => k_is); (case c10 => k_is); (case k10 => k_is)
    (case z_len => k_is)
    (case z_int => k_is)
    (case z_abs => k_is)
    (case z_str => k_is)
    (case z_tuple => k_is)
    (case z_isinstance => k_is)
    (case z_range => k_is)
    (case z_dict => k_is)
    (case z_bool => k_is)
    (case z_GREATEST => k_is)
    (case z_NUMBERS => k_is)

