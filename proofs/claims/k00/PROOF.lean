import PyProof.Rows.All
import Wide.All
import OpenK.AllK
import Wide.FinOn
import HandS.ForMost
import HandS.Codes
import HandS.ExcInit
import HandS.ExcValue
import HandS.ExcField
import HandS.IsInst
import KE.KExcIs
import HandS.Style
import HandS.More
import HandS.DeepEq
import PySem.Challenge.RW_sparkboard_k00_errors
set_option Elab.async false
set_option linter.all false
set_option maxRecDepth 100000
set_option maxHeartbeats 4000000
namespace L2
open PySem PySem.Spec PyProof.Rows
/-! ### exceptions as values: made by their own initializer, read, asked for their class -/
def tExv (C : Addr) (sp : Sp) (ta : TA) : TE := fun σ H Q => ta σ H fun vs H1 => vs.length ≤ 1000 ∧ ∀ a, H1 a = none → sp (.ref a :: vs) (upd H1 a (exo a C none)) (fun v H2 => v = .non ∧ Q (.ref a) H2) (fun _ _ _ => False)
section
variable {X : Cx} {e : Expr} {es : List Expr} {ta : TA} {p pos : Pos}
theorem exv_call {CX : CXT} {C fI : Addr} {k : Nat} {fd : FuncData} {ps : List Str} {sp : Sp} {pins : List (Addr × Obj)} {σ : St} {H1 : Hp} {s1 : Shared} {vs : List V} {us : List Value} {Q : VK} (T : OexC X.K C) (iC : PySem.W.findIn X.K (.ref C) "__init__" = some (some (.ref fI))) (tI : PySem.W.typeIn X.K (.ref fI) = some (.type "function"))
    (F1 : FnOk X.prog X.w X.K X.mg X.base CX k fI fd ps sp) (hr : Room (k + 1) X.A) (hb : Binds X.K fd ps []) (hx : Passes CX X (fun _ _ _ => False))
    (I1 : Inv X pins σ H1 s1) (r1 : Vals vs us) (hz : vs.length ≤ 1000) (q1 : ∀ a, H1 a = none → sp (.ref a :: vs) (upd H1 a (exo a C none)) (fun v H2 => v = .non ∧ Q (.ref a) H2) (fun _ _ _ => False)) :
    wpAny (model X.prog X.w) X.A (call (.ref C) us) (EP X pins σ Q) X.xe s1 := by
  obtain ⟨nm, q, N, bs, bm, sn, sub, ab, col, dd, k0, k1, k2, k3, k5, hC, hbm⟩ := T.cls
  obtain ⟨hp, g, dr, tk, os⟩ := s1
  have hsz : hp.objs.size ≤ hp.objs.size + 1 := Nat.le_succ _
  have hn : H1 (hp.objs.size + 1) = none := I1.hok.fresh hsz
  have hq := q1 (hp.objs.size + 1) hn
  have kk : ∀ b o, hp.get? b = some o → ((hp.push (PySem.W.kdv_tup us)).push (PySem.HandSPX.excO C hp.objs.size)).get? b = some o := fun b o e => Heap.get?_push_of_some _ (Heap.get?_push_of_some _ e)
  have hget : ((hp.push (PySem.W.kdv_tup us)).push (PySem.HandSPX.excO C hp.objs.size)).get? (hp.objs.size + 1) = some (PySem.HandSPX.excO C hp.objs.size) := by heap_get
  have I2 : Inv X pins σ (upd H1 (hp.objs.size + 1) (exo (hp.objs.size + 1) C none)) ⟨(hp.push (PySem.W.kdv_tup us)).push (PySem.HandSPX.excO C hp.objs.size), g, dr, tk, os⟩ :=
    I1.laid (t' := tk) (a := hp.objs.size + 1) (o := exo (hp.objs.size + 1) C none) (h' := (hp.push (PySem.W.kdv_tup us)).push (PySem.HandSPX.excO C hp.objs.size)) kk hsz (exo_ok hget)
  have r2 : Vals (V.ref (hp.objs.size + 1) :: vs) (Value.ref (hp.objs.size + 1) :: us) := .cons rfl r1
  have hl : (Value.ref (hp.objs.size + 1) :: us ++ []).length = ps.length := by
    have e := r2.length
    rw [F1.len _ _ _ _ hq] at e
    rw [List.append_nil]
    exact e.symm
  have hus : us.length ≤ sizeLine := by
    rw [← Paired.length r1, sizeLine_eq]
    omega
  refine wpAny_call (PySem.HandSPX.call_own F.excBase_ValueError (fun Y => PySem.HandSPX.refsVE_contains Y bm hbm) (I1.kIn _ _ hC) (PySem.W.looks_findIn I1.kIn iC) (fun self => PySem.W.bind_fn I1.kIn self tI) hus
    (codeAny_mono (F1.run _ X.stack _ _ ⟨Value.ref (hp.objs.size + 1) :: us, []⟩ (Value.ref (hp.objs.size + 1) :: us ++ []) _ _ (fun _ _ _ => False) (hr.make C us []) (I2.env0.make C us []) (hb _ (Value.ref (hp.objs.size + 1) :: us) I2.kIn hl) (by rw [List.append_nil]; exact r2) hq) fun r s' hq' => ?_))
  cases r with
  | error er => exact hx pins σ _ _ er s' I2 hq'
  | ok fl =>
    cases fl with
    | ret u =>
      obtain ⟨v, H2, os2, bare2, un2, hok2, rv, ev, q2⟩ := hq'
      subst ev
      exact ⟨rv, .ref (hp.objs.size + 1), H2, I2.call' (ch := []) os2 un2 hok2 bare2 (fun b z => absurd z (by simp)), rfl, q2⟩
    | next => exact False.elim hq'
    | brk => exact False.elim hq'
    | cont => exact False.elim hq'
theorem pe_exv {CX : CXT} {x : Str} {C fI : Addr} {k : Nat} {fd : FuncData} {ps : List Str} {sp : Sp} (T : OexC X.K C) (iC : PySem.W.findIn X.K (.ref C) "__init__" = some (some (.ref fI))) (tI : PySem.W.typeIn X.K (.ref fI) = some (.type "function"))
    (F1 : FnOk X.prog X.w X.K X.mg X.base CX k fI fd ps sp) (hr : Room (k + 1) X.A) (hb : Binds X.K fd ps []) (hx : Passes CX X (fun _ _ _ => False)) (hg : Gl X x) (hm : X.mg x = some (.ref C)) (ha : PA X (e :: es) ta)
    (hdb : (x == ("__debug__" : Str)) = false := by decide) (he : starEach (e :: es) X.env = (false, eval e X.env) :: starEach es X.env := by rfl) (hpl : (backTo pos (starEach es X.env)).any (·.1) = false := by rfl) :
    PE X (.Call (.Name x p) (e :: es) [] pos) (tExv C sp ta) := by
  refine ⟨fun pins s σ H Q I h => ?_⟩
  refine wpAny_Call_Name_kw (ld_glob I hg hm ?_ hdb)
  refine PySem.W.callWith_K (h₀ := X.base) I.ok.mod.kin T.kC (thn (ha.run pos pins s σ H _ I h) fun us s1 ⟨vs, H1, I1, r1, hz, q1⟩ => ⟨I1.kIn, ?_⟩) he hpl
  exact exv_call T iC tI F1 hr hb hx I1 r1 hz q1
/-- what stands at a is an exception of the class at C -/
def ExcAt (H : Hp) (a C : Addr) : Prop := H a = some (ExO (.ref C) a) ∨ H a = some (exo a C none) ∨ ∃ d fs, H a = some (exo a C (some d)) ∧ H d = some (exd d fs)
theorem ExcAt.inst {pins : List (Addr × Obj)} {σ : St} {H : Hp} {s : Shared} {a C : Addr} (I : Inv X pins σ H s) (h : ExcAt H a C) : ∃ ox od, PySem.W.InstAt s.heap a ox C od := by
  rcases h with h | h | ⟨d, fs, h, hd⟩
  · obtain ⟨⟨oe, vs, ho, hz, hdat, _⟩, _, _⟩ := (show ObjOk X.prog X.w H s.heap a (.ext _) from I.hok a _ h)
    refine ⟨oe, none, ho, hz.1, ?_, ?_⟩
    · unfold PySem.W.notCls; rw [hdat] <;> rfl
    · rw [hz.2]; trivial
  · obtain ⟨t1, ho⟩ := exo_at I.hok h
    exact ⟨_, none, ho, rfl, rfl, trivial⟩
  · obtain ⟨t1, ho⟩ := exo_at I.hok h
    obtain ⟨mA, hns, rel⟩ := exd_at I.hok hd
    obtain ⟨oD, _, _, hoD, _⟩ := hns
    exact ⟨_, some oD, ho, rfl, rfl, hoD⟩
/-- what the class at C says, so that its instances are asked rightly -/
structure ExcK (K : PySem.W.Frag) (C : Addr) : Prop where
  cl : (PySem.W.isClsIn K C) = true
  ga : PySem.W.findIn K (.ref C) "__getattribute__" = some (some (.builtin "BaseException.__getattribute__"))
  gg : PySem.W.findIn K (.ref C) "__getattr__" = some none
  su : PySem.W.subIn K (.ref C) (.type "BaseException") = some true
  ha : PySem.W.findIn K (.ref C) "__class__" = some (some (.builtin "object.__class__"))
  hn : PySem.W.specialIn K (.builtin "object.__class__") "__get__" = some (some (.builtin "getset_descriptor.__get__"))
  ht : PySem.W.takesIn K (.builtin "object.__class__") = some true
  hm : PySem.W.mroIn K C (.type "object") = some true
  hd : PySem.W.hasDictIn K C = true
def rIsX (K : PySem.W.Frag) : List V → Hp → VK → Prop := fun xs H Q => ∃ (a C : Addr) (c : V) (cv : Value) (b : Bool), xs = [.ref a, c] ∧ ClsV c cv ∧ ExcAt H a C ∧ ExcK K C ∧ PySem.W.kitOne K (.ref C) cv = some b ∧ Q (.bl b) H
theorem call_isX : CallR X (.builtin "isinstance") (rIsX X.K) := by
  intro pins s σ H xs us Q I r h
  obtain ⟨a, C, c, cv, b, rfl, hc, hx, T, e, q⟩ := h
  obtain ⟨u1, u2, rfl, r1, r2⟩ := vals2 r
  have e2 := hc.eq r2
  subst e2
  cases (show u1 = Value.ref a from r1)
  obtain ⟨ox, od, J⟩ := ExcAt.inst I hx
  exact PySem.W.kia_one (PySem.W.kitx_exc (od := od) T.cl T.ga T.gg T.su T.ha T.hn T.ht T.hm) I.kIn J e (fun z => nomatch z) fun tk => ⟨.bl b, H, I.tok tk, rfl, q⟩
/-- e.n, e an exception that was made -/
def tXv (K : PySem.W.Frag) (n : Str) (te : TE) : TE := fun σ H Q => te σ H fun x H1 => ∃ (a C d : Addr) (fs : List (Str × V)) (v : V), x = .ref a ∧ H1 a = some (exo a C (some d)) ∧ H1 d = some (exd d fs) ∧ ExcK K C ∧ PySem.W.findIn K (.ref C) n = some none ∧ fs.lookup n = some v ∧ Q v H1
theorem pe_xv {te : TE} {n : Str} (he : PE X e te) (hb : attributeBase e n X.env (eval e X.env) = eval e X.env := by rfl) : PE X (.Attribute e n pos) (tXv X.K n te) := by
  refine ⟨fun pins s σ H Q I h => ?_⟩
  refine attr_of hb (thn (he.run pins s σ H _ I h) fun u s1 hh => ?_)
  obtain ⟨x, H1, I1, rx, a, C, d, fs, v, ex, ea, ed, T, hno, l, q⟩ := hh
  subst ex
  obtain rfl : u = Value.ref a := rx
  obtain ⟨t1, ho⟩ := exo_at I1.hok ea
  obtain ⟨mA, hns, hr⟩ := exd_at I1.hok ed
  obtain ⟨od, ho2, hl⟩ := lookIn_ns hns
  obtain ⟨u, hu, ru⟩ := RelO.some_of (v := v) (o := mA n) (by rw [← l]; exact hr n)
  have J : PySem.W.InstAt s1.heap a _ C (some od) := ⟨ho, rfl, rfl, ho2⟩
  exact HandSPX.exc_get I1.kIn J T.ga T.gg T.su (PySem.W.findObj_own T.hd hno rfl (by rw [hl, hu])) (handed_of ru) ⟨v, H1, I1.tok _, ru, q⟩
end
end L2
namespace L2
open PySem PySem.Spec PyProof.Rows
section
variable {X : Cx} {p pos : Pos}
theorem pe_exv0 {CX : CXT} {x : Str} {C fI : Addr} {k : Nat} {fd : FuncData} {ps : List Str} {sp : Sp} (T : OexC X.K C) (iC : PySem.W.findIn X.K (.ref C) "__init__" = some (some (.ref fI))) (tI : PySem.W.typeIn X.K (.ref fI) = some (.type "function"))
    (F1 : FnOk X.prog X.w X.K X.mg X.base CX k fI fd ps sp) (hr : Room (k + 1) X.A) (hb : Binds X.K fd ps []) (hx : Passes CX X (fun _ _ _ => False)) (hg : Gl X x) (hm : X.mg x = some (.ref C))
    (hdb : (x == ("__debug__" : Str)) = false := by decide) : PE X (.Call (.Name x p) [] [] pos) (tExv C sp tNil) := by
  refine ⟨fun pins s σ H Q I h => ?_⟩
  refine wpAny_Call_Name_kw (ld_glob I hg hm ?_ hdb)
  obtain ⟨hz, q1⟩ := h
  exact PySem.W.callWith_K0 I.kIn T.kC (exv_call T iC tI F1 hr hb hx I .nil hz q1)
/-- an own exception class without an initializer, called with nothing -/
theorem pe_exc0 {C : Addr} {bmB : List Value} {B newId initId : String} {x : Str} (F : ExcBaseFacts B newId initId bmB) (q : PySem.W.excIn X.K C bmB newId = true) (gC : X.mg x = some (.ref C)) (kC : PySem.W.keepIn X.K (.ref C) = true) (hg : Gl X x)
    (hdb : (x == ("__debug__" : Str)) = false := by decide) : PE X (.Call (.Name x p) [] [] pos) (fun _ H1 Q => ∀ a, H1 a = none → Q (.ref a) (upd H1 a (ExO (.ref C) a))) := by
  refine ⟨fun pins s σ H Q I h => ?_⟩
  refine wpAny_Call_Name_kw (ld_glob I hg gC ?_ hdb)
  refine PySem.W.callWith_K0 I.kIn kC ?_
  obtain ⟨bm, N, nm, qn, bs, hdct, sn, sub, ab, col, dd, k0, k1, k2, k3, k5, mN, hC, hN, hni, T⟩ := exc_obj I.kIn q
  obtain ⟨hp, g, d, t, os⟩ := s
  refine wpAny_call_exc_subT F T hC hN hni (fun h' a hm => ?_) (by show 0 ≤ sizeLine; exact Nat.zero_le _)
  have hn : H a = none := I.hok.gone hm.new
  obtain ⟨t, ht, _, _⟩ := hm.there
  exact ⟨.ref a, upd H a (ExO (.ref C) a), I.laidN hm.keeps hm.new hn (exO_ok ht ⟨rfl, rfl⟩ rfl rfl rfl (show 4 < 6 by decide)), rfl, h a hn⟩
/-- a != b, two lists with the same things in them -/
def okV (x : V) : Prop := flatB x = true ∨ ∃ a, x = .ref a
def rNeSame (K : PySem.W.Frag) : R2 := fun x y H Q => ∃ a b xs, x = .ref a ∧ y = .ref b ∧ SqL K H a xs ∧ SqL K H b xs ∧ (∀ v ∈ xs, okV v) ∧ Q (.bl false) H
theorem op_neSame (hu : X.A.units < cLine) : OpR X (compareOp .NotEq) (rNeSame X.K) := by
  intro pins s σ H x y v u Q I rx ry h
  obtain ⟨a, b, xs, rfl, rfl, ha, hb, hv, q⟩ := h
  cases (show v = Value.ref a from rx)
  cases (show u = Value.ref b from ry)
  obtain ⟨us, r1, p1, _⟩ := I.list ha
  obtain ⟨ws, r2, p2, _⟩ := I.list hb
  have hsz : us.toArray.size = ws.toArray.size := by
    rw [List.size_toArray, List.size_toArray, ← r1.length, ← r2.length]
  have key : ∀ {xs : List V} {us ws : List Value}, (∀ v ∈ xs, okV v) → Vals xs us → Vals xs ws → ∀ j (h1 : j < us.length) (h2 : j < ws.length), SeqAt.EqAt X.A.in1 s us[j] ws[j] true := by
    intro xs
    induction xs with
    | nil =>
      intro us ws _ r1 r2 j h1 h2
      cases r1
      exact absurd h1 (Nat.not_lt_zero j)
    | cons x xs ih =>
      intro us ws hv r1 r2 j h1 h2
      cases r1 with
      | cons a1 b1 =>
        cases r2 with
        | cons a2 b2 =>
          cases j with
          | zero =>
            rcases hv x List.mem_cons_self with f | ⟨a, rfl⟩
            · exact eqAt_same a1 a2 f
            · cases (show _ = Value.ref a from a1)
              cases (show _ = Value.ref a from a2)
              exact SeqAt.EqAt.same _
          | succ j => exact ih (fun v h => hv v (List.mem_cons_of_mem _ h)) b1 b2 j (Nat.lt_of_succ_lt_succ h1) (Nat.lt_of_succ_lt_succ h2)
  refine (SeqAt.RcNeAt.lists (e := fun _ => true) p1.isList p2.isList hsz hu (fun j h1 h2 => ?_)) _ _ _ _ ?_
  · have z := key hv r1 r2 j (by simpa using h1) (by simpa using h2)
    simpa using z
  · rw [show ((List.range us.toArray.size).all fun _ => true) = true from List.all_eq_true.mpr fun _ _ => rfl]
    exact ⟨.bl false, H, I, rfl, q⟩
end
end L2

set_option linter.all false
set_option maxRecDepth 100000
set_option maxHeartbeats 4000000
namespace Sb
open PySem PySem.Spec PyProof.Rows L2
/-! ### the error classes of the text -/
abbrev veT : List Value := [.type "ValueError", .type "Exception", .type "BaseException", .type "object"]
structure Err (K : PySem.W.Frag) (mg : Str → Option Value) (bm : List Value) (nm : Str) (C : Addr) : Prop where
  g : mg nm = some (.ref C)
  lk : ∃ q N bs sn sub ab col dd k0 k1 k2 k3 k5, K.lookup C = some (excClassObj nm q C N bs bm true sn sub ab col dd k0 k1 k2 k3 k5 "ValueError.__new__")
  sa : PySem.W.findIn K (.ref C) "__setattr__" = some (some (.builtin "object.__setattr__"))
  ga : PySem.W.findIn K (.ref C) "__getattribute__" = some (some (.builtin "BaseException.__getattribute__"))
  gg : PySem.W.findIn K (.ref C) "__getattr__" = some none
  ha : PySem.W.findIn K (.ref C) "__class__" = some (some (.builtin "object.__class__"))
  kC : PySem.W.keepIn K (.ref C) = true
  hn : PySem.W.specialIn K (.builtin "object.__class__") "__get__" = some (some (.builtin "getset_descriptor.__get__"))
  ht : PySem.W.takesIn K (.builtin "object.__class__") = some true
section
variable {K : PySem.W.Frag} {mg : Str → Option Value} {bm bm2 : List Value} {nm nm2 : Str} {C D : Addr}
theorem Err.cls (T : Err K mg bm nm C) : ∃ cd, PySem.W.clsIn K C = some cd ∧ cd.mro = .ref C :: bm ∧ cd.hasDict = true ∧ cd.name = nm := by
  obtain ⟨q, N, bs, sn, sub, ab, col, dd, k0, k1, k2, k3, k5, h⟩ := T.lk
  refine ⟨{ name := nm, bases := bs, mro := .ref C :: bm, ns := N, qualname := q, hasDict := true, slotNames := sn, subclasses := sub, abstract := ab, collection := col, hasDel := false }, ?_, rfl, rfl, rfl⟩
  unfold PySem.W.clsIn
  rw [h] <;> rfl
theorem Err.mro (T : Err K mg bm nm C) (x : Value) : PySem.W.mroIn K C x = some ((Value.ref C :: bm).contains x) := by
  obtain ⟨cd, h, hm, _⟩ := T.cls
  unfold PySem.W.mroIn
  rw [h]
  show (if cd.mro.isEmpty then none else some (cd.mro.contains x)) = _
  rw [hm]
  rfl
theorem Err.isc (T : Err K mg bm nm C) : PySem.W.isClsIn K C = true := by
  obtain ⟨cd, h, _⟩ := T.cls
  unfold PySem.W.isClsIn
  rw [h]
  rfl
theorem Err.hd (T : Err K mg bm nm C) : PySem.W.hasDictIn K C = true := by
  obtain ⟨cd, h, _, hd, _⟩ := T.cls
  unfold PySem.W.hasDictIn
  rw [h]
  exact hd
theorem Err.ty (T : Err K mg bm nm C) : PySem.W.typeIn K (.ref C) = some (.type "type") := by
  obtain ⟨q, N, bs, sn, sub, ab, col, dd, k0, k1, k2, k3, k5, h⟩ := T.lk
  show (K.lookup C).map (·.cls) = _
  rw [h]
  rfl
theorem Err.su (T : Err K mg bm nm C) (h : bm.contains (.type "BaseException") = true) : PySem.W.subIn K (.ref C) (.type "BaseException") = some true := by
  show PySem.W.mroIn K C _ = _
  rw [T.mro, List.contains_cons, h, Bool.or_true]
theorem Err.oex (T : Err K mg bm nm C) (h : bm.contains (.type "BaseException") = true) (hr : PySem.HandSPX.refsVE bm = true) : OexC K C := by
  obtain ⟨q, N, bs, sn, sub, ab, col, dd, k0, k1, k2, k3, k5, h1⟩ := id T.lk
  exact ⟨⟨nm, q, N, bs, bm, sn, sub, ab, col, dd, k0, k1, k2, k3, k5, h1, hr⟩, T.sa, T.su h, T.ty, T.kC⟩
theorem Err.xk (T : Err K mg bm nm C) (h : bm.contains (.type "BaseException") = true) (h2 : bm.contains (.type "object") = true) : ExcK K C :=
  ⟨T.isc, T.ga, T.gg, T.su h, T.ha, T.hn, T.ht, by rw [T.mro, List.contains_cons, h2, Bool.or_true], T.hd⟩
theorem Err.same (T : Err K mg bm nm C) (U : Err K mg bm2 nm D) : C = D := by
  have e := T.g.symm.trans U.g
  cases e
  rfl
theorem Err.ne (T : Err K mg bm nm C) (U : Err K mg bm2 nm2 D) (h : nm ≠ nm2) : C ≠ D := by
  intro e
  subst e
  obtain ⟨cd, h1, _, _, e1⟩ := T.cls
  obtain ⟨cd2, h2, _, _, e2⟩ := U.cls
  rw [h1] at h2
  cases h2
  exact h (e1.symm.trans e2)
/-- is what is of the class at C of the class at D -/
theorem Err.kit (T : Err K mg bm nm C) (U : Err K mg bm2 nm2 D) {b : Bool} (hb : bm.contains (.ref D) = b) (hn : decide (nm = nm2) = false → nm ≠ nm2) : PySem.W.kitOne K (.ref C) (.ref D) = some (decide (nm = nm2) || b) := by
  have hne : (nm = nm2) ∨ nm ≠ nm2 := by
    cases e : decide (nm = nm2) with
    | true => exact .inl (of_decide_eq_true e)
    | false => exact .inr (hn e)
  rcases hne with e | e
  · subst e
    have e := T.same U
    subst e
    rw [decide_eq_true rfl, Bool.true_or]
    unfold PySem.W.kitOne
    rw [if_pos (by simp)]
  · have ne := T.ne U e
    have h1 : ¬ (Value.ref C == Value.ref D) = true := fun z => ne (Value.ref.inj (beq_iff_eq.mp z))
    rw [decide_eq_false e, Bool.false_or]
    unfold PySem.W.kitOne
    rw [if_neg h1]
    show (if ((PySem.W.clsIn K D).isSome && PySem.W.typeIn K (.ref D) == some (.type "type")) = true then PySem.W.mroIn K C (.ref D) else none) = _
    rw [show (PySem.W.clsIn K D).isSome = true from U.isc, U.ty, if_pos (by rfl), T.mro, List.contains_cons, hb]
    have h2 : (Value.ref D == Value.ref C) = false := Bool.eq_false_iff.mpr fun z => ne (Value.ref.inj (beq_iff_eq.mp z)).symm
    rw [h2, Bool.false_or]
theorem Err.kitT (T : Err K mg bm nm C) {t : String} (hm : PySem.W.kitMeta t = true) (hb : bm.contains (.type t) = true) : PySem.W.kitOne K (.ref C) (.type t) = some true := by
  unfold PySem.W.kitOne
  rw [if_neg (by intro z; cases beq_iff_eq.mp z)]
  show (if PySem.W.kitMeta t = true then PySem.W.mroIn K C (.type t) else none) = _
  rw [if_pos hm, T.mro, List.contains_cons, hb, Bool.or_true]
end
/-! ### exceptions that stand -/
def ExV (H : Hp) (a C : Addr) (fs : List (Str × V)) : Prop := ∃ d, H a = some (exo a C (some d)) ∧ H d = some (exd d fs)
theorem ExV.same {H H' : Hp} {a C : Addr} {fs : List (Str × V)} (s : Same H H') (h : ExV H a C fs) : ExV H' a C fs := by
  obtain ⟨d, h1, h2⟩ := h
  exact ⟨d, s _ _ h1, s _ _ h2⟩
theorem ExV.at {H : Hp} {a C : Addr} {fs : List (Str × V)} (h : ExV H a C fs) : ExcAt H a C := by
  obtain ⟨d, h1, h2⟩ := h
  exact .inr (.inr ⟨d, fs, h1, h2⟩)
theorem ExcAt.same {H H' : Hp} {a C : Addr} (s : Same H H') (h : ExcAt H a C) : ExcAt H' a C := by
  rcases h with h | h | ⟨d, fs, h, h2⟩
  · exact .inl (s _ _ h)
  · exact .inr (.inl (s _ _ h))
  · exact .inr (.inr ⟨d, fs, s _ _ h, s _ _ h2⟩)
theorem same_made {H H' : Hp} {a : Addr} {o : HO} (ha : H a = none) (k : ∀ b u, upd H a o b = some u → b ≠ a → H' b = some u) : Same H H' := fun b u e =>
  k b u (by rw [upd_ne (ne_of_none e ha)]; exact e) (ne_of_none e ha)
def spX1 (C : Addr) (f : Str) : Sp := fun vs H Q _ => ∃ a v, vs = [.ref a, v] ∧ H a = some (exo a C none) ∧ ∀ H', (∀ b o, H b = some o → b ≠ a → H' b = some o) → ExV H' a C [(f, v)] → Q .non H'
def spX2 (C : Addr) (f g : Str) : Sp := fun vs H Q _ => ∃ a v u, vs = [.ref a, v, u] ∧ H a = some (exo a C none) ∧ ∀ H', (∀ b o, H b = some o → b ≠ a → H' b = some o) → ExV H' a C [(g, u), (f, v)] → Q .non H'
def spX0 (C : Addr) : Sp := fun vs H Q _ => ∃ a, vs = [.ref a] ∧ H a = some (exo a C none) ∧ Q .non H
end Sb

set_option linter.all false
set_option maxRecDepth 100000
set_option maxHeartbeats 4000000
namespace Sb
open PySem PySem.Spec PyProof.Rows L2
def top (i : Nat) : Stmt := PySem.Challenge.pw_sparkboard_k00_errors.main.body.getD i (.Pass ⟨0, 0, 0, 0⟩)
/-! ### the pen -/
def penD (c : Addr) (a d n f : Int) : List (Key × V) := [(.inr "cells", .ref c), (.inr "at", .int a), (.inr "digits", .int d), (.inr "count", .int n), (.inr "fold", .int f)]
theorem pen_cells {c : Addr} {a d n f : Int} : valV (penD c a d n f) (.inr "cells") = some (.ref c) := by kernel_rfl
theorem pen_at {c : Addr} {a d n f : Int} : valV (penD c a d n f) (.inr "at") = some (.int a) := by kernel_rfl
theorem pen_digits {c : Addr} {a d n f : Int} : valV (penD c a d n f) (.inr "digits") = some (.int d) := by kernel_rfl
theorem pen_count {c : Addr} {a d n f : Int} : valV (penD c a d n f) (.inr "count") = some (.int n) := by kernel_rfl
theorem pen_fold {c : Addr} {a d n f : Int} : valV (penD c a d n f) (.inr "fold") = some (.int f) := by kernel_rfl
theorem put_at {c : Addr} {a d n f v : Int} : putK (penD c a d n f) (.inr "at") (.int v) = penD c v d n f := by kernel_rfl
theorem put_digits {c : Addr} {a d n f v : Int} : putK (penD c a d n f) (.inr "digits") (.int v) = penD c a v n f := by kernel_rfl
theorem put_count {c : Addr} {a d n f v : Int} : putK (penD c a d n f) (.inr "count") (.int v) = penD c a d v f := by kernel_rfl
theorem put_fold {c : Addr} {a d n f v : Int} : putK (penD c a d n f) (.inr "fold") (.int v) = penD c a d n v := by kernel_rfl

theorem same_upd {H : Hp} {p : Addr} {o : HO} (h : H p = none) : Same H (upd H p o) := fun b x e => by
  rw [upd_ne (ne_of_none e h)]
  exact e
section
variable {H : Hp} {p c : Addr} {a d n f v : Int}
theorem dg_cells (h : H p = some (.dK (penD c a d n f))) : DGet H p (.str "cells") (some (.ref c)) := pen_cells (a := a) (d := d) (n := n) (f := f) ▸ DGet.k (k := Sum.inr "cells") h
theorem dg_at (h : H p = some (.dK (penD c a d n f))) : DGet H p (.str "at") (some (.int a)) := pen_at (c := c) (d := d) (n := n) (f := f) ▸ DGet.k (k := Sum.inr "at") h
theorem dg_digits (h : H p = some (.dK (penD c a d n f))) : DGet H p (.str "digits") (some (.int d)) := pen_digits (a := a) (c := c) (n := n) (f := f) ▸ DGet.k (k := Sum.inr "digits") h
theorem dg_count (h : H p = some (.dK (penD c a d n f))) : DGet H p (.str "count") (some (.int n)) := pen_count (a := a) (d := d) (c := c) (f := f) ▸ DGet.k (k := Sum.inr "count") h
theorem dg_fold (h : H p = some (.dK (penD c a d n f))) : DGet H p (.str "fold") (some (.int f)) := pen_fold (a := a) (d := d) (n := n) (c := c) ▸ DGet.k (k := Sum.inr "fold") h
theorem len_pen : (penD c a d n f).length < sizeLine := by show 5 < sizeLine; decide
theorem dp_at (h : H p = some (.dK (penD c a d n f))) : DPut H p (.str "at") (.int v) (upd H p (.dK (penD c v d n f))) := put_at ▸ DPut.k (k := Sum.inr "at") h len_pen
theorem dp_digits (h : H p = some (.dK (penD c a d n f))) : DPut H p (.str "digits") (.int v) (upd H p (.dK (penD c a v n f))) := put_digits ▸ DPut.k (k := Sum.inr "digits") h len_pen
theorem dp_count (h : H p = some (.dK (penD c a d n f))) : DPut H p (.str "count") (.int v) (upd H p (.dK (penD c a d v f))) := put_count ▸ DPut.k (k := Sum.inr "count") h len_pen
theorem dp_fold (h : H p = some (.dK (penD c a d n f))) : DPut H p (.str "fold") (.int v) (upd H p (.dK (penD c a d n v))) := put_fold ▸ DPut.k (k := Sum.inr "fold") h len_pen
end
structure TB (mg : Str → Option Value) : Prop where
  int : mg "int" = none
  list : mg "list" = none
  len : mg "len" = none
def Pen (H : Hp) (p c : Addr) (k : Nat) : Prop := ∃ (ns : List Int) (a d n f : Int), H p = some (.dK (penD c a d n f)) ∧ H c = some (.lst (ns.map V.int)) ∧ ns.length ≤ 63 ∧ 0 ≤ a ∧ 0 ≤ d ∧ 0 ≤ n ∧ n ≤ k ∧ 0 ≤ f ∧ f < 2147483587
def spPen (K : PySem.W.Frag) : Sp := fun vs H Q _ => ∃ (a : Addr) (ns : List Int), vs = [.ref a] ∧ SqL K H a (ns.map V.int) ∧ ns.length ≤ 63 ∧ ∀ p c H', H p = none → H c = none → Same H H' → Pen H' p c 0 → Q (.ref p) H'
def spDraw : Sp := fun vs H Q _ => ∃ (p c : Addr) (k : Nat) (m : Int), vs = [.ref p, .int m] ∧ Pen H p c k ∧ k < 1000000000 ∧ 0 < m ∧ m < 1000000 ∧ ∀ d H', 0 ≤ d → d < m → Pen H' p c (k + 1) → (∀ q, q ≠ p → H' q = H q) → Q (.int d) H'
section
variable {P : Program} {w : World} {K : PySem.W.Frag} {mg : Str → Option Value} {base : Heap}
theorem sc_pen : FnScope ["_law_script", "_law_fold", "_law_cell"] ["_law_script"] (defScope (top 17)) := ⟨rfl, rfl, rfl, by decide +kernel, rfl, by decide +kernel, by decide +kernel⟩
theorem ok_pen {f : Addr} {fd : FuncData} (F : Fun K "_law_pen" "_law_pen" (top 17) f fd) (T : TB mg) : FnOk P w K mg base CX0 1 f fd ["_law_script"] (spPen K) := by
  have sc := sc_pen
  refine F.ok sc_pen (fun vs H Q E h => ?_) (fun cdv A outer s H vs Q E hr h => ?_)
  · obtain ⟨a, ns, rfl, _⟩ := h
    rfl
  · obtain ⟨a, ns, rfl, hS, hlen, q⟩ := h
    refine ⟨_, (pss_cons (ps_set (i := 1) sc.nd rfl (.inl rfl) pe_int)
      (pss_cons (ps_for PassesOwn.never rfl (pi_list (pv 0)) (pg_name (i := 2) sc.nd rfl (.inl rfl)) (pss_one (ps_set (i := 1) sc.nd rfl (.inl rfl) (pe_op op_modN (pe_callTy call_int1 (by rfl) T.int (by decide +kernel) (pa_cons (pe_op op_add (pe_op op_mul (pv 1) pe_int) (pv 2)) pa_nil)) pe_int))))
      (pss_one (ps_ret (pe_disp (pps_cons pe_str (pe_callTy call_list_of (by rfl) T.list (by decide +kernel) (pa_cons (pv 0) pa_nil)) (pps_cons pe_str pe_int (pps_cons pe_str pe_int (pps_cons pe_str pe_int (pps_cons pe_str (pv 1) pps_nil))))) (by rfl) (by rfl) (fun z => by cases z) (by decide)))))), ?_⟩
    refine ⟨_, rfl, a, rfl, ⟨_, hS⟩, for_list (K := K) (a := a) (xs := ns.map V.int) (fun i σ H' => ∃ f v, σ = [some (.ref a), some (.int f), v] ∧ H' = H ∧ 0 ≤ f ∧ f < 1000000007) ⟨0, none, rfl, rfl, by decide, by decide⟩ (fun i σ H' _ hh => ?_) ?_ ?_⟩
    · obtain ⟨f, v, rfl, rfl, _⟩ := hh
      exact hS
    · rintro i y σ H' hi ⟨f, v, rfl, rfl, h1, h2⟩
      obtain ⟨z, hz, rfl⟩ : ∃ z, ns[i]? = some z ∧ y = V.int z := by
        rw [List.getElem?_map] at hi
        cases e : ns[i]? with
        | none => rw [e] at hi; cases hi
        | some z => rw [e] at hi; exact ⟨z, rfl, (Option.some.inj hi).symm⟩
      refine ⟨_, rfl, _, _, rfl, rfl, .inl ⟨by omega, by omega⟩, _, rfl, _, _, rfl, rfl, .inl ⟨_, rfl, _, _, rfl, rfl, (by show (1000000007 : Int) ≠ 0; decide), _, _, rfl, rfl, ?_, ?_⟩⟩
      · exact Int.fmod_nonneg_of_pos _ (by decide)
      · exact Int.fmod_lt_of_pos _ (by decide)
    · rintro σ H' ⟨f, v, rfl, rfl, h1, h2⟩
      intro p hp
      refine ⟨_, rfl, a, _, rfl, .inl ((same_upd hp).seq hS), fun l hl => ⟨_, rfl, ?_, [(.inr "cells", .ref l), (.inr "at", .int 0), (.inr "digits", .int 0), (.inr "count", .int 0), (.inr "fold", .int f)], rfl, (by show 5 ≤ 15; decide), ?_⟩⟩
      · have e : p ≠ l := fun e => by rw [← e, upd_same] at hl; cases hl
        rw [upd_ne e, upd_same]
      · have e : l ≠ p := fun e => by rw [e, upd_same] at hl; cases hl
        have hl0 : H' l = none := by rw [upd_ne e] at hl; exact hl
        refine q p l _ hp hl0 (fun b o z => ?_) ⟨ns, 0, 0, 0, f, ?_, ?_, hlen, by decide, by decide, by decide, by decide, h1, by omega⟩
        · rw [upd_ne (ne_of_none z hp), upd_ne (ne_of_none z hl0), upd_ne (ne_of_none z hp)]
          exact z
        · rw [upd_same]
          exact congrArg (fun x => some (HO.dK x)) (by kernel_rfl)
        · rw [upd_ne e, upd_same]
theorem sc_draw : FnScope ["_law_pen_here", "_law_many", "_law_cell", "_law_digit", "_law_blend"] ["_law_pen_here", "_law_many"] (defScope (top 18)) := ⟨rfl, rfl, rfl, by decide +kernel, rfl, by decide +kernel, by decide +kernel⟩
theorem ok_draw {f : Addr} {fd : FuncData} (F : Fun K "_law_draw" "_law_draw" (top 18) f fd) (T : TB mg) : FnOk P w K mg base CX0 1 f fd ["_law_pen_here", "_law_many"] spDraw := by
  have sc := sc_draw
  refine F.ok sc_draw (fun vs H Q E h => ?_) (fun cdv A outer s H vs Q E hr h => ?_)
  · obtain ⟨p, c, k, m, rfl, _⟩ := h
    rfl
  · obtain ⟨p, c, k, m, rfl, ⟨ns, a, d, n, f, hp, hc, hln, ha, hd, hn, hnk, hf, hf2⟩, hk, hm, hm2, q⟩ := h
    have hu := hu_of hr
    have npc : c ≠ p := ne_of hc hp (by intro z; cases z)
    refine ⟨_, (pss_cons (ps_dput hu (pv 0) pe_str (pe_op op_add (pe_dget hu (pv 0) pe_str (fun _ _ => rfl)) pe_int) rfl)
      (C8.pss_cut (ps_if (PW.pt (pw_and (pt_cmpR op_eq (pe_dget hu (pv 0) pe_str (fun _ _ => rfl)) pe_int (nomark _)) (pw_and1 (pt_cmpR op_lt (pe_dget hu (pv 0) pe_str (fun _ _ => rfl)) (pe_callB call_len (by rfl) T.len (by decide +kernel) (pa_cons (pe_dget hu (pv 0) pe_str (fun _ _ => rfl)) pa_nil)) (nomark _))))) (pss_cons (ps_set (i := 2) sc.nd rfl (.inl rfl) (pe_ix ix_list (pe_dget hu (pv 0) pe_str (fun _ _ => rfl)) (pe_dget hu (pv 0) pe_str (fun _ _ => rfl)) (fun _ _ => rfl)))
      (pss_cons (ps_dput hu (pv 0) pe_str (pe_op op_add (pe_dget hu (pv 0) pe_str (fun _ _ => rfl)) pe_int) rfl)
      (pss_one (ps_if (pt_cmpR op_ge (pv 2) (pe_op op_pow pe_int pe_int) (nomark _)) (pss_one (ps_dput hu (pv 0) pe_str (pe_op op_sub (pv 2) (pe_op op_pow pe_int pe_int)) rfl)) (pss_one (ps_dput hu (pv 0) pe_str (pe_op op_modN (pe_callTy call_int1 (by rfl) T.int (by decide +kernel) (pa_cons (pe_op op_add (pe_op op_mul (pe_dget hu (pv 0) pe_str (fun _ _ => rfl)) pe_int) (pv 2)) pa_nil)) pe_int) rfl)))))) pss_nil)
      (pss_cons (ps_if (pt_cmpR op_gt (pe_dget hu (pv 0) pe_str (fun _ _ => rfl)) pe_int (nomark _)) (pss_cons (ps_set (i := 3) sc.nd rfl (.inl rfl) (pe_op op_modN (pe_callTy call_int1 (by rfl) T.int (by decide +kernel) (pa_cons (pe_dget hu (pv 0) pe_str (fun _ _ => rfl)) pa_nil)) (pv 1)))
      (pss_cons (ps_dput hu (pv 0) pe_str (pe_op op_fdivN (pe_dget hu (pv 0) pe_str (fun _ _ => rfl)) (pv 1)) rfl)
      (pss_one (ps_ret (pv 3))))) pss_nil)
      (pss_cons (ps_set (i := 4) sc.nd rfl (.inl rfl) (pe_op op_add (pe_op op_add (pe_dget hu (pv 0) pe_str (fun _ _ => rfl)) (pe_op op_mul (pe_dget hu (pv 0) pe_str (fun _ _ => rfl)) pe_int)) pe_int))
      (pss_one (ps_ret (pe_op op_modN (pe_op op_fdivN (pe_callTy call_int1 (by rfl) T.int (by decide +kernel) (pa_cons (pe_op op_modN (pe_op op_pow (pv 4) pe_int) pe_int) pa_nil)) pe_int) (pv 1)))))))), ?_⟩
    -- count
    refine ⟨_, rfl, p, _, rfl, dg_count hp, _, _, rfl, rfl, _, rfl, p, _, rfl, dp_count hp, ?_⟩
    refine ⟨fun σ' H' => ∃ (v2 : Option V) (a d f : Int), σ' = [some (.ref p), some (.int m), v2, none, none] ∧ H' = upd H p (.dK (penD c a d (n + 1) f)) ∧ 0 ≤ a ∧ 0 ≤ d ∧ 0 ≤ f ∧ f < 2147483587, ?_, ?_⟩
    · -- the next cell, perhaps
      refine ⟨_, rfl, p, _, rfl, dg_digits upd_same, rfl, _, rfl, ?_⟩
      have skip : ∃ (v2 : Option V) (a' d' f' : Int), [some (V.ref p), some (V.int m), none, none, none] = [some (V.ref p), some (V.int m), v2, none, none] ∧ upd H p (.dK (penD c a d (n + 1) f)) = upd H p (.dK (penD c a' d' (n + 1) f')) ∧ 0 ≤ a' ∧ 0 ≤ d' ∧ 0 ≤ f' ∧ f' < 2147483587 := ⟨none, a, d, f, rfl, rfl, ha, hd, hf, hf2⟩
      refine ite2 (fun _ => ?_) (fun _ => skip)
      refine ⟨_, rfl, p, _, rfl, dg_at upd_same, _, rfl, p, _, rfl, dg_cells upd_same, _, ns.length, rfl, .inl ⟨_, SqL.of (by rw [upd_ne npc]; exact hc), by rw [List.length_map]⟩, _, _, rfl, rfl, _, rfl, ?_⟩
      refine ite2 (fun e => ?_) (fun _ => skip)
      have hlt : a < (ns.length : Int) := of_decide_eq_true e
      have han : a.toNat < ns.length := by omega
      have hx : (ns.map V.int)[a.toNat]? = some (.int ns[a.toNat]) := by
        rw [List.getElem?_map, List.getElem?_eq_getElem han]
        rfl
      refine ⟨_, rfl, p, _, rfl, dg_cells upd_same, _, rfl, p, _, rfl, dg_at upd_same, c, ns.map V.int, a, .int ns[a.toNat], rfl, rfl, SqL.of (by rw [upd_ne npc]; exact hc), at_of (by omega) hx, ?_⟩
      refine ⟨_, rfl, p, _, rfl, dg_at upd_same, _, _, rfl, rfl, _, rfl, p, _, rfl, dp_at upd_same, ?_⟩
      rw [upd_upd]
      refine ⟨_, rfl, _, _, rfl, rfl, ⟨by decide, by decide, by decide⟩, _, _, rfl, rfl, _, rfl, ?_⟩
      refine ite2 (fun e => ?_) (fun _ => ?_)
      · have hge : (10 : Int) ^ (18 : Int).toNat ≤ ns[a.toNat] := of_decide_eq_true e
        refine ⟨_, rfl, _, _, rfl, rfl, ⟨by decide, by decide, by decide⟩, _, _, rfl, rfl, _, rfl, p, _, rfl, dp_digits upd_same, ?_⟩
        rw [upd_upd]
        exact ⟨_, _, _, _, rfl, rfl, by omega, by omega, hf, hf2⟩
      · refine ⟨_, rfl, p, _, rfl, dg_fold upd_same, _, _, rfl, rfl, .inl ⟨by omega, by omega⟩, _, rfl, _, _, rfl, rfl, .inl ⟨_, rfl, _, _, rfl, rfl, (by show (2147483587 : Int) ≠ 0; decide), _, rfl, p, _, rfl, dp_fold upd_same, ?_⟩⟩
        rw [upd_upd]
        exact ⟨_, _, _, _, rfl, rfl, by omega, hd, Int.fmod_nonneg_of_pos _ (by decide), Int.fmod_lt_of_pos _ (by decide)⟩
    · rintro σ' H' ⟨v2, a, d, f, rfl, rfl, ha, hd, hf, hf2⟩
      have keep : ∀ (x : HO) (b : Addr), b ≠ p → upd H p x b = H b := fun x b hb => upd_ne hb
      have pen : ∀ d' : Int, 0 ≤ d' → Pen (upd H p (.dK (penD c a d' (n + 1) f))) p c (k + 1) := fun d' h =>
        ⟨ns, a, d', n + 1, f, upd_same, by rw [upd_ne npc]; exact hc, hln, ha, h, by omega, by omega, hf, hf2⟩
      refine ⟨_, rfl, p, _, rfl, dg_digits upd_same, _, _, rfl, rfl, _, rfl, ?_⟩
      refine ite2 (fun e => ?_) (fun _ => ?_)
      · have hgt : 0 < d := of_decide_eq_true e
        refine ⟨_, rfl, p, _, rfl, dg_digits upd_same, .inl ⟨_, rfl, _, rfl, _, _, rfl, rfl, (by show m ≠ 0; omega), ?_⟩⟩
        refine ⟨_, rfl, p, _, rfl, dg_digits upd_same, _, rfl, _, _, rfl, rfl, ⟨by omega, by omega⟩, _, rfl, p, _, rfl, dp_digits upd_same, ?_⟩
        rw [upd_upd]
        exact ⟨_, rfl, q _ _ (Int.fmod_nonneg_of_pos _ hm) (Int.fmod_lt_of_pos _ hm) (pen _ (Int.fdiv_nonneg hd (by omega))) (fun b hb => upd_ne hb)⟩
      · refine ⟨_, rfl, p, _, rfl, dg_fold upd_same, _, rfl, p, _, rfl, dg_count upd_same, _, _, rfl, rfl, .inl ⟨by omega, by omega⟩, _, _, rfl, rfl, _, _, rfl, rfl, ?_⟩
        refine ⟨_, rfl, _, _, rfl, rfl, ⟨by decide, by decide, by omega⟩, _, _, rfl, rfl, (by show (2305843009213693951 : Int) ≠ 0; decide), .inl ⟨_, rfl, _, _, rfl, rfl, ⟨by decide, by decide⟩, _, rfl, _, _, rfl, rfl, (by show m ≠ 0; omega), ?_⟩⟩
        exact q _ _ (Int.fmod_nonneg_of_pos _ hm) (Int.fmod_lt_of_pos _ hm) (pen d hd) (fun b hb => upd_ne hb)

/-! ### what a draw leaves: all but the pen -/
def But (p : Addr) (H H' : Hp) : Prop := ∀ q, q ≠ p → H' q = H q
theorem But.refl {p : Addr} {H : Hp} : But p H H := fun _ _ => rfl
theorem But.trans {p : Addr} {H H1 H2 : Hp} (a : But p H H1) (b : But p H1 H2) : But p H H2 := fun q h => (b q h).trans (a q h)
theorem But.sq {p c : Addr} {k : Nat} {H H' : Hp} {a : Addr} {xs : List V} (b : But p H H') (g : Pen H p c k) (h : SqL K H a xs) : SqL K H' a xs := by
  obtain ⟨_, _, _, _, _, hp, _⟩ := g
  rcases h with (h | ⟨o, h⟩) | h
  · exact .inl (.inl ((b a (ne_of h hp (by intro z; cases z))).trans h))
  · exact .inl (.inr ⟨o, (b a (ne_of h hp (by intro z; cases z))).trans h⟩)
  · exact .inr h
def spPick (K : PySem.W.Frag) : Sp := fun vs H Q _ => ∃ (p c l : Addr) (k : Nat) (xs : List V), vs = [.ref p, .ref l] ∧ Pen H p c k ∧ k < 1000000000 ∧ SqL K H l xs ∧ 0 < xs.length ∧ xs.length < 1000000 ∧ ∀ (i : Nat) x H', xs[i]? = some x → Pen H' p c (k + 1) → But p H H' → Q x H'
structure TD (mg : Str → Option Value) (K : PySem.W.Frag) (fD : Addr) : Prop where
  g : mg "_law_draw" = some (.ref fD)
theorem sc_pick : FnScope ["_law_pen_here", "_law_some"] ["_law_pen_here", "_law_some"] (defScope (top 19)) := ⟨rfl, rfl, rfl, by decide +kernel, rfl, by decide +kernel, by decide +kernel⟩
theorem ok_pick {f fD : Addr} {fd fdD : FuncData} (F : Fun K "_law_pick" "_law_pick" (top 19) f fd) (T : TB mg) (gD : mg "_law_draw" = some (.ref fD)) (GD : FnOk P w K mg base CX0 1 fD fdD ["_law_pen_here", "_law_many"] spDraw) (kD : PySem.W.keepIn K (.ref fD) = true) (bD : Binds K fdD ["_law_pen_here", "_law_many"] []) :
    FnOk P w K mg base CX0 2 f fd ["_law_pen_here", "_law_some"] (spPick K) := by
  have sc := sc_pick
  refine F.ok sc_pick (fun vs H Q E h => ?_) (fun cdv A outer s H vs Q E hr h => ?_)
  · obtain ⟨p, c, l, k, xs, rfl, _⟩ := h
    rfl
  · obtain ⟨p, c, l, k, xs, rfl, hp, hk, hl, h1, h2, q⟩ := h
    refine ⟨_, (pss_one (ps_ret (pe_ix ix_list (pv 1) (pe_call GD (hr.mono (by decide)) (by rfl) gD kD bD .nil pass0 (pa_cons (pv 0) (pa_cons (pe_callB call_len (by rfl) T.len (by decide +kernel) (pa_cons (pv 1) pa_nil)) pa_nil))) (fun _ _ => rfl)))), ?_⟩
    refine ⟨_, rfl, _, rfl, _, rfl, _, xs.length, rfl, .inl ⟨_, hl, rfl⟩, p, c, k, _, rfl, hp, hk, by omega, by omega, fun d H' h3 h4 hp' hb => ?_⟩
    have hd : d.toNat < xs.length := by omega
    exact ⟨l, xs, d, xs[d.toNat], rfl, rfl, But.sq hb hp hl, at_of (by omega) (List.getElem?_eq_getElem hd), q _ _ _ (List.getElem?_eq_getElem hd) hp' hb⟩
end
end Sb

set_option linter.all false
set_option maxRecDepth 100000
set_option maxHeartbeats 4000000
namespace Sb
open PySem PySem.Spec PyProof.Rows L2
section
variable {P : Program} {w : World} {K : PySem.W.Frag} {mg : Str → Option Value} {base : Heap}

theorem sc_BadText : FnScope ["self", "column"] ["self", "column"] (defScope (inClass (top 2) 0)) := ⟨rfl, rfl, rfl, by decide +kernel, rfl, by decide +kernel, by decide +kernel⟩
theorem ok_BadText {f C : Addr} {fd : FuncData} (F : Fun K "__init__" "BadText.__init__" (inClass (top 2) 0) f fd) (T : OexC K C) (n1 : PySem.W.findIn K (.ref C) "column" = some none) : FnOk P w K mg base CX0 1 f fd ["self", "column"] (spX1 C "column") := by
  refine F.ok sc_BadText (fun vs H Q E h => ?_) (fun cdv A outer s H vs Q E hr h => ?_)
  · obtain ⟨a, v, rfl, _⟩ := h
    rfl
  · obtain ⟨a, v, rfl, ha, q⟩ := h
    refine ⟨_, pss_one (ps_ost (pv 0) (pv 1)), ?_⟩
    refine ⟨_, rfl, _, rfl, a, C, rfl, T, n1, .inl ⟨ha, fun dx nx ne => q _ (fun b o e hb => ?_) ⟨dx, upd_same, by rw [upd_ne ne, upd_same]⟩⟩⟩
    rw [upd_ne hb, upd_ne (ne_of_none e nx)]
    exact e
theorem sc_BadLine : FnScope ["self", "line", "column"] ["self", "line", "column"] (defScope (inClass (top 3) 0)) := ⟨rfl, rfl, rfl, by decide +kernel, rfl, by decide +kernel, by decide +kernel⟩
theorem ok_BadLine {f C : Addr} {fd : FuncData} (F : Fun K "__init__" "BadLine.__init__" (inClass (top 3) 0) f fd) (T : OexC K C) (n1 : PySem.W.findIn K (.ref C) "line" = some none) (n2 : PySem.W.findIn K (.ref C) "column" = some none) : FnOk P w K mg base CX0 1 f fd ["self", "line", "column"] (spX2 C "line" "column") := by
  refine F.ok sc_BadLine (fun vs H Q E h => ?_) (fun cdv A outer s H vs Q E hr h => ?_)
  · obtain ⟨a, v, u, rfl, _⟩ := h
    rfl
  · obtain ⟨a, v, u, rfl, ha, q⟩ := h
    refine ⟨_, pss_cons (ps_ost (pv 0) (pv 1)) (pss_one (ps_ost (pv 0) (pv 2))), ?_⟩
    refine ⟨_, rfl, _, rfl, a, C, rfl, T, n1, .inl ⟨ha, fun dx nx ne => ?_⟩⟩
    refine ⟨_, rfl, _, rfl, a, C, rfl, T, n2, .inr ⟨dx, [("line", v)], upd_same, by rw [upd_ne ne, upd_same], (by show 1 ≤ 900; decide), q _ (fun b o e hb => ?_) ⟨dx, by rw [upd_ne ne.symm, upd_same], upd_same⟩⟩⟩
    rw [upd_ne (ne_of_none e nx), upd_ne hb, upd_ne (ne_of_none e nx)]
    exact e
theorem sc_BadNumber : FnScope ["self", "what", "number"] ["self", "what", "number"] (defScope (inClass (top 4) 0)) := ⟨rfl, rfl, rfl, by decide +kernel, rfl, by decide +kernel, by decide +kernel⟩
theorem ok_BadNumber {f C : Addr} {fd : FuncData} (F : Fun K "__init__" "BadNumber.__init__" (inClass (top 4) 0) f fd) (T : OexC K C) (n1 : PySem.W.findIn K (.ref C) "what" = some none) (n2 : PySem.W.findIn K (.ref C) "number" = some none) : FnOk P w K mg base CX0 1 f fd ["self", "what", "number"] (spX2 C "what" "number") := by
  refine F.ok sc_BadNumber (fun vs H Q E h => ?_) (fun cdv A outer s H vs Q E hr h => ?_)
  · obtain ⟨a, v, u, rfl, _⟩ := h
    rfl
  · obtain ⟨a, v, u, rfl, ha, q⟩ := h
    refine ⟨_, pss_cons (ps_ost (pv 0) (pv 1)) (pss_one (ps_ost (pv 0) (pv 2))), ?_⟩
    refine ⟨_, rfl, _, rfl, a, C, rfl, T, n1, .inl ⟨ha, fun dx nx ne => ?_⟩⟩
    refine ⟨_, rfl, _, rfl, a, C, rfl, T, n2, .inr ⟨dx, [("what", v)], upd_same, by rw [upd_ne ne, upd_same], (by show 1 ≤ 900; decide), q _ (fun b o e hb => ?_) ⟨dx, by rw [upd_ne ne.symm, upd_same], upd_same⟩⟩⟩
    rw [upd_ne (ne_of_none e nx), upd_ne hb, upd_ne (ne_of_none e nx)]
    exact e
theorem sc_BadRow : FnScope ["self", "row"] ["self", "row"] (defScope (inClass (top 5) 0)) := ⟨rfl, rfl, rfl, by decide +kernel, rfl, by decide +kernel, by decide +kernel⟩
theorem ok_BadRow {f C : Addr} {fd : FuncData} (F : Fun K "__init__" "BadRow.__init__" (inClass (top 5) 0) f fd) (T : OexC K C) (n1 : PySem.W.findIn K (.ref C) "row" = some none) : FnOk P w K mg base CX0 1 f fd ["self", "row"] (spX1 C "row") := by
  refine F.ok sc_BadRow (fun vs H Q E h => ?_) (fun cdv A outer s H vs Q E hr h => ?_)
  · obtain ⟨a, v, rfl, _⟩ := h
    rfl
  · obtain ⟨a, v, rfl, ha, q⟩ := h
    refine ⟨_, pss_one (ps_ost (pv 0) (pv 1)), ?_⟩
    refine ⟨_, rfl, _, rfl, a, C, rfl, T, n1, .inl ⟨ha, fun dx nx ne => q _ (fun b o e hb => ?_) ⟨dx, upd_same, by rw [upd_ne ne, upd_same]⟩⟩⟩
    rw [upd_ne hb, upd_ne (ne_of_none e nx)]
    exact e
theorem sc_BadName : FnScope ["self", "name"] ["self", "name"] (defScope (inClass (top 6) 0)) := ⟨rfl, rfl, rfl, by decide +kernel, rfl, by decide +kernel, by decide +kernel⟩
theorem ok_BadName {f C : Addr} {fd : FuncData} (F : Fun K "__init__" "BadName.__init__" (inClass (top 6) 0) f fd) (T : OexC K C) (n1 : PySem.W.findIn K (.ref C) "name" = some none) : FnOk P w K mg base CX0 1 f fd ["self", "name"] (spX1 C "name") := by
  refine F.ok sc_BadName (fun vs H Q E h => ?_) (fun cdv A outer s H vs Q E hr h => ?_)
  · obtain ⟨a, v, rfl, _⟩ := h
    rfl
  · obtain ⟨a, v, rfl, ha, q⟩ := h
    refine ⟨_, pss_one (ps_ost (pv 0) (pv 1)), ?_⟩
    refine ⟨_, rfl, _, rfl, a, C, rfl, T, n1, .inl ⟨ha, fun dx nx ne => q _ (fun b o e hb => ?_) ⟨dx, upd_same, by rw [upd_ne ne, upd_same]⟩⟩⟩
    rw [upd_ne hb, upd_ne (ne_of_none e nx)]
    exact e
theorem sc_BadCell : FnScope ["self", "cell"] ["self", "cell"] (defScope (inClass (top 7) 0)) := ⟨rfl, rfl, rfl, by decide +kernel, rfl, by decide +kernel, by decide +kernel⟩
theorem ok_BadCell {f C : Addr} {fd : FuncData} (F : Fun K "__init__" "BadCell.__init__" (inClass (top 7) 0) f fd) (T : OexC K C) (n1 : PySem.W.findIn K (.ref C) "cell" = some none) : FnOk P w K mg base CX0 1 f fd ["self", "cell"] (spX1 C "cell") := by
  refine F.ok sc_BadCell (fun vs H Q E h => ?_) (fun cdv A outer s H vs Q E hr h => ?_)
  · obtain ⟨a, v, rfl, _⟩ := h
    rfl
  · obtain ⟨a, v, rfl, ha, q⟩ := h
    refine ⟨_, pss_one (ps_ost (pv 0) (pv 1)), ?_⟩
    refine ⟨_, rfl, _, rfl, a, C, rfl, T, n1, .inl ⟨ha, fun dx nx ne => q _ (fun b o e hb => ?_) ⟨dx, upd_same, by rw [upd_ne ne, upd_same]⟩⟩⟩
    rw [upd_ne hb, upd_ne (ne_of_none e nx)]
    exact e
theorem sc_BadGate : FnScope ["self", "index"] ["self", "index"] (defScope (inClass (top 8) 0)) := ⟨rfl, rfl, rfl, by decide +kernel, rfl, by decide +kernel, by decide +kernel⟩
theorem ok_BadGate {f C : Addr} {fd : FuncData} (F : Fun K "__init__" "BadGate.__init__" (inClass (top 8) 0) f fd) (T : OexC K C) (n1 : PySem.W.findIn K (.ref C) "index" = some none) : FnOk P w K mg base CX0 1 f fd ["self", "index"] (spX1 C "index") := by
  refine F.ok sc_BadGate (fun vs H Q E h => ?_) (fun cdv A outer s H vs Q E hr h => ?_)
  · obtain ⟨a, v, rfl, _⟩ := h
    rfl
  · obtain ⟨a, v, rfl, ha, q⟩ := h
    refine ⟨_, pss_one (ps_ost (pv 0) (pv 1)), ?_⟩
    refine ⟨_, rfl, _, rfl, a, C, rfl, T, n1, .inl ⟨ha, fun dx nx ne => q _ (fun b o e hb => ?_) ⟨dx, upd_same, by rw [upd_ne ne, upd_same]⟩⟩⟩
    rw [upd_ne hb, upd_ne (ne_of_none e nx)]
    exact e
theorem sc_BadTile : FnScope ["self", "stage", "tile"] ["self", "stage", "tile"] (defScope (inClass (top 9) 0)) := ⟨rfl, rfl, rfl, by decide +kernel, rfl, by decide +kernel, by decide +kernel⟩
theorem ok_BadTile {f C : Addr} {fd : FuncData} (F : Fun K "__init__" "BadTile.__init__" (inClass (top 9) 0) f fd) (T : OexC K C) (n1 : PySem.W.findIn K (.ref C) "stage" = some none) (n2 : PySem.W.findIn K (.ref C) "tile" = some none) : FnOk P w K mg base CX0 1 f fd ["self", "stage", "tile"] (spX2 C "stage" "tile") := by
  refine F.ok sc_BadTile (fun vs H Q E h => ?_) (fun cdv A outer s H vs Q E hr h => ?_)
  · obtain ⟨a, v, u, rfl, _⟩ := h
    rfl
  · obtain ⟨a, v, u, rfl, ha, q⟩ := h
    refine ⟨_, pss_cons (ps_ost (pv 0) (pv 1)) (pss_one (ps_ost (pv 0) (pv 2))), ?_⟩
    refine ⟨_, rfl, _, rfl, a, C, rfl, T, n1, .inl ⟨ha, fun dx nx ne => ?_⟩⟩
    refine ⟨_, rfl, _, rfl, a, C, rfl, T, n2, .inr ⟨dx, [("stage", v)], upd_same, by rw [upd_ne ne, upd_same], (by show 1 ≤ 900; decide), q _ (fun b o e hb => ?_) ⟨dx, by rw [upd_ne ne.symm, upd_same], upd_same⟩⟩⟩
    rw [upd_ne (ne_of_none e nx), upd_ne hb, upd_ne (ne_of_none e nx)]
    exact e
theorem sc_NoName : FnScope ["self", "name"] ["self", "name"] (defScope (inClass (top 10) 0)) := ⟨rfl, rfl, rfl, by decide +kernel, rfl, by decide +kernel, by decide +kernel⟩
theorem ok_NoName {f C : Addr} {fd : FuncData} (F : Fun K "__init__" "NoName.__init__" (inClass (top 10) 0) f fd) (T : OexC K C) (n1 : PySem.W.findIn K (.ref C) "name" = some none) : FnOk P w K mg base CX0 1 f fd ["self", "name"] (spX1 C "name") := by
  refine F.ok sc_NoName (fun vs H Q E h => ?_) (fun cdv A outer s H vs Q E hr h => ?_)
  · obtain ⟨a, v, rfl, _⟩ := h
    rfl
  · obtain ⟨a, v, rfl, ha, q⟩ := h
    refine ⟨_, pss_one (ps_ost (pv 0) (pv 1)), ?_⟩
    refine ⟨_, rfl, _, rfl, a, C, rfl, T, n1, .inl ⟨ha, fun dx nx ne => q _ (fun b o e hb => ?_) ⟨dx, upd_same, by rw [upd_ne ne, upd_same]⟩⟩⟩
    rw [upd_ne hb, upd_ne (ne_of_none e nx)]
    exact e
theorem sc_TakenName : FnScope ["self", "name"] ["self", "name"] (defScope (inClass (top 11) 0)) := ⟨rfl, rfl, rfl, by decide +kernel, rfl, by decide +kernel, by decide +kernel⟩
theorem ok_TakenName {f C : Addr} {fd : FuncData} (F : Fun K "__init__" "TakenName.__init__" (inClass (top 11) 0) f fd) (T : OexC K C) (n1 : PySem.W.findIn K (.ref C) "name" = some none) : FnOk P w K mg base CX0 1 f fd ["self", "name"] (spX1 C "name") := by
  refine F.ok sc_TakenName (fun vs H Q E h => ?_) (fun cdv A outer s H vs Q E hr h => ?_)
  · obtain ⟨a, v, rfl, _⟩ := h
    rfl
  · obtain ⟨a, v, rfl, ha, q⟩ := h
    refine ⟨_, pss_one (ps_ost (pv 0) (pv 1)), ?_⟩
    refine ⟨_, rfl, _, rfl, a, C, rfl, T, n1, .inl ⟨ha, fun dx nx ne => q _ (fun b o e hb => ?_) ⟨dx, upd_same, by rw [upd_ne ne, upd_same]⟩⟩⟩
    rw [upd_ne hb, upd_ne (ne_of_none e nx)]
    exact e
theorem sc_Unlike : FnScope ["self", "what"] ["self", "what"] (defScope (inClass (top 12) 0)) := ⟨rfl, rfl, rfl, by decide +kernel, rfl, by decide +kernel, by decide +kernel⟩
theorem ok_Unlike {f C : Addr} {fd : FuncData} (F : Fun K "__init__" "Unlike.__init__" (inClass (top 12) 0) f fd) (T : OexC K C) (n1 : PySem.W.findIn K (.ref C) "what" = some none) : FnOk P w K mg base CX0 1 f fd ["self", "what"] (spX1 C "what") := by
  refine F.ok sc_Unlike (fun vs H Q E h => ?_) (fun cdv A outer s H vs Q E hr h => ?_)
  · obtain ⟨a, v, rfl, _⟩ := h
    rfl
  · obtain ⟨a, v, rfl, ha, q⟩ := h
    refine ⟨_, pss_one (ps_ost (pv 0) (pv 1)), ?_⟩
    refine ⟨_, rfl, _, rfl, a, C, rfl, T, n1, .inl ⟨ha, fun dx nx ne => q _ (fun b o e hb => ?_) ⟨dx, upd_same, by rw [upd_ne ne, upd_same]⟩⟩⟩
    rw [upd_ne hb, upd_ne (ne_of_none e nx)]
    exact e
theorem sc_NotKept : FnScope ["self", "promise", "witness"] ["self", "promise", "witness"] (defScope (inClass (top 13) 0)) := ⟨rfl, rfl, rfl, by decide +kernel, rfl, by decide +kernel, by decide +kernel⟩
theorem ok_NotKept {f C : Addr} {fd : FuncData} (F : Fun K "__init__" "NotKept.__init__" (inClass (top 13) 0) f fd) (T : OexC K C) (n1 : PySem.W.findIn K (.ref C) "promise" = some none) (n2 : PySem.W.findIn K (.ref C) "witness" = some none) : FnOk P w K mg base CX0 1 f fd ["self", "promise", "witness"] (spX2 C "promise" "witness") := by
  refine F.ok sc_NotKept (fun vs H Q E h => ?_) (fun cdv A outer s H vs Q E hr h => ?_)
  · obtain ⟨a, v, u, rfl, _⟩ := h
    rfl
  · obtain ⟨a, v, u, rfl, ha, q⟩ := h
    refine ⟨_, pss_cons (ps_ost (pv 0) (pv 1)) (pss_one (ps_ost (pv 0) (pv 2))), ?_⟩
    refine ⟨_, rfl, _, rfl, a, C, rfl, T, n1, .inl ⟨ha, fun dx nx ne => ?_⟩⟩
    refine ⟨_, rfl, _, rfl, a, C, rfl, T, n2, .inr ⟨dx, [("promise", v)], upd_same, by rw [upd_ne ne, upd_same], (by show 1 ≤ 900; decide), q _ (fun b o e hb => ?_) ⟨dx, by rw [upd_ne ne.symm, upd_same], upd_same⟩⟩⟩
    rw [upd_ne (ne_of_none e nx), upd_ne hb, upd_ne (ne_of_none e nx)]
    exact e
theorem sc_NothingToUndo : FnScope ["self"] ["self"] (defScope (inClass (top 14) 0)) := ⟨rfl, rfl, rfl, by decide +kernel, rfl, by decide +kernel, by decide +kernel⟩
theorem ok_NothingToUndo {f C : Addr} {fd : FuncData} (F : Fun K "__init__" "NothingToUndo.__init__" (inClass (top 14) 0) f fd) : FnOk P w K mg base CX0 1 f fd ["self"] (spX0 C) := by
  refine F.ok sc_NothingToUndo (fun vs H Q E h => ?_) (fun cdv A outer s H vs Q E hr h => ?_)
  · obtain ⟨a, rfl, _⟩ := h
    rfl
  · obtain ⟨a, rfl, ha, q⟩ := h
    exact ⟨_, pss_one ps_pass, q⟩
theorem sc_NothingToRedo : FnScope ["self"] ["self"] (defScope (inClass (top 15) 0)) := ⟨rfl, rfl, rfl, by decide +kernel, rfl, by decide +kernel, by decide +kernel⟩
theorem ok_NothingToRedo {f C : Addr} {fd : FuncData} (F : Fun K "__init__" "NothingToRedo.__init__" (inClass (top 15) 0) f fd) : FnOk P w K mg base CX0 1 f fd ["self"] (spX0 C) := by
  refine F.ok sc_NothingToRedo (fun vs H Q E h => ?_) (fun cdv A outer s H vs Q E hr h => ?_)
  · obtain ⟨a, rfl, _⟩ := h
    rfl
  · obtain ⟨a, rfl, ha, q⟩ := h
    exact ⟨_, pss_one ps_pass, q⟩
/-- a class of the text with its initializer -/
structure Own (K : PySem.W.Frag) (mg : Str → Option Value) (P : Program) (w : World) (base : Heap) (S : Addr) (nm : Str) (C fI : Addr) (fd : FuncData) (ps : List Str) (sp : Sp) : Prop where
  e : Err K mg (.ref S :: veT) nm C
  i : PySem.W.findIn K (.ref C) "__init__" = some (some (.ref fI))
  t : PySem.W.typeIn K (.ref fI) = some (.type "function")
  b : Binds K fd ps []
  G : FnOk P w K mg base CX0 1 fI fd ps sp
theorem hasB {S : Addr} : (Value.ref S :: veT).contains (.type "BaseException") = true := by rw [List.contains_cons, show veT.contains (.type "BaseException") = true from by decide +kernel, Bool.or_true]
theorem hasO {S : Addr} : (Value.ref S :: veT).contains (.type "object") = true := by rw [List.contains_cons, show veT.contains (.type "object") = true from by decide +kernel, Bool.or_true]
theorem hasV {S : Addr} : (Value.ref S :: veT).contains (.type "ValueError") = true := by rw [List.contains_cons, show veT.contains (.type "ValueError") = true from by decide +kernel, Bool.or_true]
theorem refsS {S : Addr} : PySem.HandSPX.refsVE (.ref S :: veT) = true := by
  show PySem.HandSPX.refsVE veT = true
  decide +kernel
theorem Own.oex {S C fI : Addr} {nm : Str} {fd : FuncData} {ps : List Str} {sp : Sp} (T : Own K mg P w base S nm C fI fd ps sp) : OexC K C := T.e.oex hasB refsS
theorem Own.xk {S C fI : Addr} {nm : Str} {fd : FuncData} {ps : List Str} {sp : Sp} (T : Own K mg P w base S nm C fI fd ps sp) : ExcK K C := T.e.xk hasB hasO

end
end Sb
set_option linter.all false
set_option maxRecDepth 100000
set_option maxHeartbeats 4000000
namespace Sb
open PySem PySem.Spec PyProof.Rows L2
theorem with_new {H : Hp} {p : Addr} {o : HO} {G : Hp → Prop} (hp : H p = none) (k : ∀ H', Same H H' → H' p = some o → G H') : G (upd H p o) := k _ (same_upd hp) upd_same
structure Builtins (mg : Str → Option Value) : Prop where
  int : mg "int" = none
  list : mg "list" = none
  len : mg "len" = none
  isinstance : mg "isinstance" = none
  range : mg "range" = none
  ValueError : mg "ValueError" = none
theorem Builtins.tb {mg : Str → Option Value} (T : Builtins mg) : TB mg := ⟨T.int, T.list, T.len⟩

structure Cls (K : PySem.W.Frag) (mg : Str → Option Value) (P : Program) (w : World) (base : Heap) (S : Addr) (C0 f0 : Addr) (d0 : FuncData) (C1 f1 : Addr) (d1 : FuncData) (C2 f2 : Addr) (d2 : FuncData) (C3 f3 : Addr) (d3 : FuncData) (C4 f4 : Addr) (d4 : FuncData) (C5 f5 : Addr) (d5 : FuncData) (C6 f6 : Addr) (d6 : FuncData) (C7 f7 : Addr) (d7 : FuncData) (C8 f8 : Addr) (d8 : FuncData) (C9 f9 : Addr) (d9 : FuncData) (C10 f10 : Addr) (d10 : FuncData) (C11 f11 : Addr) (d11 : FuncData) (C12 f12 : Addr) (d12 : FuncData) (C13 f13 : Addr) (d13 : FuncData) : Prop where
  s : Err K mg veT "SparkError" S
  x : PySem.W.excIn K S veT "ValueError.__new__" = true
  c0 : Own K mg P w base S "BadText" C0 f0 d0 ["self", "column"] (spX1 C0 "column")
  c1 : Own K mg P w base S "BadLine" C1 f1 d1 ["self", "line", "column"] (spX2 C1 "line" "column")
  c2 : Own K mg P w base S "BadNumber" C2 f2 d2 ["self", "what", "number"] (spX2 C2 "what" "number")
  c3 : Own K mg P w base S "BadRow" C3 f3 d3 ["self", "row"] (spX1 C3 "row")
  c4 : Own K mg P w base S "BadName" C4 f4 d4 ["self", "name"] (spX1 C4 "name")
  c5 : Own K mg P w base S "BadCell" C5 f5 d5 ["self", "cell"] (spX1 C5 "cell")
  c6 : Own K mg P w base S "BadGate" C6 f6 d6 ["self", "index"] (spX1 C6 "index")
  c7 : Own K mg P w base S "BadTile" C7 f7 d7 ["self", "stage", "tile"] (spX2 C7 "stage" "tile")
  c8 : Own K mg P w base S "NoName" C8 f8 d8 ["self", "name"] (spX1 C8 "name")
  c9 : Own K mg P w base S "TakenName" C9 f9 d9 ["self", "name"] (spX1 C9 "name")
  c10 : Own K mg P w base S "Unlike" C10 f10 d10 ["self", "what"] (spX1 C10 "what")
  c11 : Own K mg P w base S "NotKept" C11 f11 d11 ["self", "promise", "witness"] (spX2 C11 "promise" "witness")
  c12 : Own K mg P w base S "NothingToUndo" C12 f12 d12 ["self"] (spX0 C12)
  c13 : Own K mg P w base S "NothingToRedo" C13 f13 d13 ["self"] (spX0 C13)
def names14 : List Str := ["BadText", "BadLine", "BadNumber", "BadRow", "BadName", "BadCell", "BadGate", "BadTile", "NoName", "TakenName", "Unlike", "NotKept", "NothingToUndo", "NothingToRedo"]
def kindsOf (nm : Str) : List V := names14.map fun n => .bl (decide (nm = n))
def spKinds (K : PySem.W.Frag) (mg : Str → Option Value) (S : Addr) : Sp := fun vs H Q _ => ∃ (a C : Addr) (nm : Str) (bm : List Value), vs = [.ref a] ∧ ExcAt H a C ∧ Err K mg bm nm C ∧ (bm = .ref S :: veT ∨ (bm = veT ∧ nm = "SparkError")) ∧
  ∀ p H', H p = none → Same H H' → H' p = some (.lst (kindsOf nm)) → Q (.ref p) H'
section
variable {P : Program} {w : World} {K : PySem.W.Frag} {mg : Str → Option Value} {base : Heap} {S C0 f0 C1 f1 C2 f2 C3 f3 C4 f4 C5 f5 C6 f6 C7 f7 C8 f8 C9 f9 C10 f10 C11 f11 C12 f12 C13 f13 : Addr} {d0 d1 d2 d3 d4 d5 d6 d7 d8 d9 d10 d11 d12 d13 : FuncData}
theorem sc_kinds : FnScope ["_law_error", "_law_found"] ["_law_error"] (defScope (top 20)) := ⟨rfl, rfl, rfl, by decide +kernel, rfl, by decide +kernel, by decide +kernel⟩
theorem ok_kinds {f : Addr} {fd : FuncData} (F : Fun K "_law_kinds" "_law_kinds" (top 20) f fd) (T : Builtins mg) (TT : Cls K mg P w base S C0 f0 d0 C1 f1 d1 C2 f2 d2 C3 f3 d3 C4 f4 d4 C5 f5 d5 C6 f6 d6 C7 f7 d7 C8 f8 d8 C9 f9 d9 C10 f10 d10 C11 f11 d11 C12 f12 d12 C13 f13 d13) : FnOk P w K mg base CX0 1 f fd ["_law_error"] (spKinds K mg S) := by
  have sc := sc_kinds
  refine F.ok sc_kinds (fun vs H Q E h => ?_) (fun cdv A outer s H vs Q E hr h => ?_)
  · obtain ⟨a, C, nm, bm, rfl, _⟩ := h
    rfl
  · obtain ⟨a, C, nm, bm, rfl, hx, he, hbm, q⟩ := h
    have xk : ExcK K C := by
      rcases hbm with rfl | ⟨rfl, _⟩
      · exact he.xk hasB hasO
      · exact he.xk (by decide +kernel) (by decide +kernel)
    have kit : ∀ {nm2 : Str} {D : Addr}, Err K mg (.ref S :: veT) nm2 D → nm2 ≠ "SparkError" → PySem.W.kitOne K (.ref C) (.ref D) = some (decide (nm = nm2)) := by
      intro nm2 D hD hne
      have hS : D ≠ S := hD.ne TT.s hne
      have h0 : (Value.ref D == Value.ref S) = false := Bool.eq_false_iff.mpr fun z => hS (Value.ref.inj (beq_iff_eq.mp z))
      have h1 : veT.contains (.ref D) = false := by rfl
      have hb : bm.contains (.ref D) = false := by
        rcases hbm with rfl | ⟨rfl, _⟩
        · rw [List.contains_cons, h0, h1]
          rfl
        · exact h1
      rw [he.kit hD hb (fun e => of_decide_eq_false e), Bool.or_false]
    have kitS : PySem.W.kitOne K (.ref C) (.ref S) = some true := by
      rcases hbm with rfl | ⟨rfl, rfl⟩
      · rw [he.kit TT.s (b := true) (by rw [List.contains_cons]; simp) (fun e => of_decide_eq_false e), Bool.or_true]
      · rw [he.kit TT.s (b := false) (by rfl) (fun e => of_decide_eq_false e)]
        rfl
    have kitV : PySem.W.kitOne K (.ref C) (.type "ValueError") = some true := by
      rcases hbm with rfl | ⟨rfl, _⟩
      · exact he.kitT (by decide +kernel) hasV
      · exact he.kitT (by decide +kernel) (by decide +kernel)
    refine ⟨_, (pss_cons (ps_set (i := 1) sc.nd rfl (.inl rfl) (pe_lst (pa_cons (pe_callB call_isX (by rfl) T.isinstance (by decide +kernel) (pa_cons (pv 0) (pa_cons (pe_glob (v := .ref _) rfl TT.c0.e.g rfl) pa_nil))) (pa_cons (pe_callB call_isX (by rfl) T.isinstance (by decide +kernel) (pa_cons (pv 0) (pa_cons (pe_glob (v := .ref _) rfl TT.c1.e.g rfl) pa_nil))) (pa_cons (pe_callB call_isX (by rfl) T.isinstance (by decide +kernel) (pa_cons (pv 0) (pa_cons (pe_glob (v := .ref _) rfl TT.c2.e.g rfl) pa_nil))) pa_nil)))))
      (pss_cons (ps_set (i := 1) sc.nd rfl (.inl rfl) (pe_op op_cat (pv 1) (pe_lst (pa_cons (pe_callB call_isX (by rfl) T.isinstance (by decide +kernel) (pa_cons (pv 0) (pa_cons (pe_glob (v := .ref _) rfl TT.c3.e.g rfl) pa_nil))) (pa_cons (pe_callB call_isX (by rfl) T.isinstance (by decide +kernel) (pa_cons (pv 0) (pa_cons (pe_glob (v := .ref _) rfl TT.c4.e.g rfl) pa_nil))) (pa_cons (pe_callB call_isX (by rfl) T.isinstance (by decide +kernel) (pa_cons (pv 0) (pa_cons (pe_glob (v := .ref _) rfl TT.c5.e.g rfl) pa_nil))) pa_nil))))))
      (pss_cons (ps_set (i := 1) sc.nd rfl (.inl rfl) (pe_op op_cat (pv 1) (pe_lst (pa_cons (pe_callB call_isX (by rfl) T.isinstance (by decide +kernel) (pa_cons (pv 0) (pa_cons (pe_glob (v := .ref _) rfl TT.c6.e.g rfl) pa_nil))) (pa_cons (pe_callB call_isX (by rfl) T.isinstance (by decide +kernel) (pa_cons (pv 0) (pa_cons (pe_glob (v := .ref _) rfl TT.c7.e.g rfl) pa_nil))) (pa_cons (pe_callB call_isX (by rfl) T.isinstance (by decide +kernel) (pa_cons (pv 0) (pa_cons (pe_glob (v := .ref _) rfl TT.c8.e.g rfl) pa_nil))) pa_nil))))))
      (pss_cons (ps_set (i := 1) sc.nd rfl (.inl rfl) (pe_op op_cat (pv 1) (pe_lst (pa_cons (pe_callB call_isX (by rfl) T.isinstance (by decide +kernel) (pa_cons (pv 0) (pa_cons (pe_glob (v := .ref _) rfl TT.c9.e.g rfl) pa_nil))) (pa_cons (pe_callB call_isX (by rfl) T.isinstance (by decide +kernel) (pa_cons (pv 0) (pa_cons (pe_glob (v := .ref _) rfl TT.c10.e.g rfl) pa_nil))) (pa_cons (pe_callB call_isX (by rfl) T.isinstance (by decide +kernel) (pa_cons (pv 0) (pa_cons (pe_glob (v := .ref _) rfl TT.c11.e.g rfl) pa_nil))) pa_nil))))))
      (pss_cons (ps_set (i := 1) sc.nd rfl (.inl rfl) (pe_op op_cat (pv 1) (pe_lst (pa_cons (pe_callB call_isX (by rfl) T.isinstance (by decide +kernel) (pa_cons (pv 0) (pa_cons (pe_glob (v := .ref _) rfl TT.c12.e.g rfl) pa_nil))) (pa_cons (pe_callB call_isX (by rfl) T.isinstance (by decide +kernel) (pa_cons (pv 0) (pa_cons (pe_glob (v := .ref _) rfl TT.c13.e.g rfl) pa_nil))) pa_nil)))))
      (pss_one (ps_ret (pe_ifExp (PW.pt (pw_and (pt_val (pe_callB call_isX (by rfl) T.isinstance (by decide +kernel) (pa_cons (pv 0) (pa_cons (pe_glob (v := .ref _) rfl TT.s.g rfl) pa_nil)))) (pw_and1 (pt_val (pe_callB call_isX (by rfl) T.isinstance (by decide +kernel) (pa_cons (pv 0) (pa_cons (pe_bltn (v := .ty "ValueError") (by rfl) T.ValueError (by decide +kernel) rfl) pa_nil))))))) (pv 1) (pe_lst pa_nil))))))))), ?_⟩
    refine ⟨_, rfl, a, C, _, _, _, rfl, .own _, hx, xk, kit TT.c0.e (by decide +kernel), _, rfl, a, C, _, _, _, rfl, .own _, hx, xk, kit TT.c1.e (by decide +kernel), _, rfl, a, C, _, _, _, rfl, .own _, hx, xk, kit TT.c2.e (by decide +kernel), (by show 3 ≤ sizeLine; decide), fun l1 h1 => with_new h1 (fun H1 s1 e1 => ?_)⟩
    have hx1 := ExcAt.same s1 hx
    refine ⟨_, rfl, _, rfl, a, C, _, _, _, rfl, .own _, hx1, xk, kit TT.c3.e (by decide +kernel), _, rfl, a, C, _, _, _, rfl, .own _, hx1, xk, kit TT.c4.e (by decide +kernel), _, rfl, a, C, _, _, _, rfl, .own _, hx1, xk, kit TT.c5.e (by decide +kernel), (by show 3 ≤ sizeLine; decide), fun m1 g1 => ⟨_, m1, _, _, rfl, rfl, (same_upd g1) _ _ e1, upd_same, (by show 6 ≤ sizeLine; decide), fun l2 h2 => with_new h2 (fun H2 s2' e2 => ?_)⟩⟩
    have s2 := s1.trans ((same_upd g1).trans s2')
    have hx2 := ExcAt.same s2 hx
    refine ⟨_, rfl, _, rfl, a, C, _, _, _, rfl, .own _, hx2, xk, kit TT.c6.e (by decide +kernel), _, rfl, a, C, _, _, _, rfl, .own _, hx2, xk, kit TT.c7.e (by decide +kernel), _, rfl, a, C, _, _, _, rfl, .own _, hx2, xk, kit TT.c8.e (by decide +kernel), (by show 3 ≤ sizeLine; decide), fun m2 g2 => ⟨_, m2, _, _, rfl, rfl, (same_upd g2) _ _ e2, upd_same, (by show 9 ≤ sizeLine; decide), fun l3 h3 => with_new h3 (fun H3 s3' e3 => ?_)⟩⟩
    have s3 := s2.trans ((same_upd g2).trans s3')
    have hx3 := ExcAt.same s3 hx
    refine ⟨_, rfl, _, rfl, a, C, _, _, _, rfl, .own _, hx3, xk, kit TT.c9.e (by decide +kernel), _, rfl, a, C, _, _, _, rfl, .own _, hx3, xk, kit TT.c10.e (by decide +kernel), _, rfl, a, C, _, _, _, rfl, .own _, hx3, xk, kit TT.c11.e (by decide +kernel), (by show 3 ≤ sizeLine; decide), fun m3 g3 => ⟨_, m3, _, _, rfl, rfl, (same_upd g3) _ _ e3, upd_same, (by show 12 ≤ sizeLine; decide), fun l4 h4 => with_new h4 (fun H4 s4' e4 => ?_)⟩⟩
    have s4 := s3.trans ((same_upd g3).trans s4')
    have hx4 := ExcAt.same s4 hx
    refine ⟨_, rfl, _, rfl, a, C, _, _, _, rfl, .own _, hx4, xk, kit TT.c12.e (by decide +kernel), _, rfl, a, C, _, _, _, rfl, .own _, hx4, xk, kit TT.c13.e (by decide +kernel), (by show 2 ≤ sizeLine; decide), fun m4 g4 => ⟨_, m4, _, _, rfl, rfl, (same_upd g4) _ _ e4, upd_same, (by show 14 ≤ sizeLine; decide), fun l5 h5 => with_new h5 (fun H5 s5' e5 => ?_)⟩⟩
    have s5 := s4.trans ((same_upd g4).trans s5')
    have hx5 := ExcAt.same s5 hx
    refine ⟨_, rfl, a, C, _, _, _, rfl, .own _, hx5, xk, kitS, true, rfl, iteT ⟨_, rfl, a, C, _, _, _, rfl, .ty _, hx5, xk, kitV, true, rfl, iteT ⟨_, rfl, ?_⟩⟩⟩
    exact q l5 H5 ((s4.trans (same_upd g4)).free h5) s5 e5
end
end Sb
set_option linter.all false
set_option maxRecDepth 100000
set_option maxHeartbeats 8000000
namespace Sb
open PySem PySem.Spec PyProof.Rows L2
structure Fn (K : PySem.W.Frag) (mg : Str → Option Value) (P : Program) (w : World) (base : Heap) (CX : CXT) (x : Str) (lv : Nat) (f : Addr) (fd : FuncData) (ps : List Str) (sp : Sp) : Prop where
  g : mg x = some (.ref f)
  k : PySem.W.keepIn K (.ref f) = true
  b : Binds K fd ps []
  G : FnOk P w K mg base CX lv f fd ps sp
theorem Pen.same {H H' : Hp} {p c : Addr} {k : Nat} (s : Same H H') (h : Pen H p c k) : Pen H' p c k := by
  obtain ⟨ns, a, d, n, f, h1, h2, r⟩ := h
  exact ⟨ns, a, d, n, f, s _ _ h1, s _ _ h2, r⟩
theorem same_mut {H H' : Hp} {p : Addr} {o : HO} (s : Same H H') (h : H p = none) : Same H (upd H' p o) := fun b u e => by
  rw [upd_ne (ne_of_none e h)]
  exact s b u e
theorem kinds_at : ∀ i, i < 14 → kindsOf (names14.getD i "") = (List.range 14).map fun (k : Nat) => V.bl (decide (V.int (0 + (k : Int)) = V.int (0 + (i : Int)))) := by decide +kernel
theorem kinds_none : kindsOf "SparkError" = (List.replicate 14 [V.bl false]).flatten := by decide +kernel
theorem okAll {xs : List V} (h : xs.all flatB = true) : ∀ v ∈ xs, okV v := fun v hv => .inl (List.all_eq_true.mp h v hv)
theorem kinds_flat {nm : Str} : ∀ v ∈ kindsOf nm, okV v := fun v hv => by
  obtain ⟨n, _, rfl⟩ := List.mem_map.mp hv
  exact .inl rfl
theorem pairSame {K : PySem.W.Frag} {H : Hp} : ∀ {xs : List V}, (∀ v ∈ xs, flatB v = true) → Paired (EqV K H 1) xs xs
  | [], _ => .nil
  | x :: xs, h => .cons (.inl ⟨rfl, h x List.mem_cons_self⟩) (pairSame fun v hv => h v (List.mem_cons_of_mem _ hv))
theorem at_sig {G : L2.St → Hp → Prop} {σ σ' : L2.St} {H : Hp} (e : σ = σ') (h : G σ' H) : G σ H := e ▸ h
def spLaw (K : PySem.W.Frag) : Sp := fun vs H Q _ => ∃ (a : Addr) (ns : List Int), vs = [.ref a] ∧ SqL K H a (ns.map V.int) ∧ ns.length ≤ 63 ∧ ∀ H', Q (.bl true) H'
section
variable {P : Program} {w : World} {K : PySem.W.Frag} {mg : Str → Option Value} {base : Heap} {S C0 f0 C1 f1 C2 f2 C3 f3 C4 f4 C5 f5 C6 f6 C7 f7 C8 f8 C9 f9 C10 f10 C11 f11 C12 f12 C13 f13 : Addr} {d0 d1 d2 d3 d4 d5 d6 d7 d8 d9 d10 d11 d12 d13 : FuncData}
theorem sc_law : FnScope ["_law_script", "_law_pen_here", "_law_one", "_law_two", "_law_line", "_law_number", "_law_tile", "_law_kept", "_law_told", "_law_text", "_law_row", "_law_name", "_law_cell", "_law_gate", "_law_none", "_law_taken", "_law_unlike", "_law_errors", "_law_place", "_law_k"] ["_law_script"] (defScope (top 21)) := ⟨rfl, rfl, rfl, by decide +kernel, rfl, by decide +kernel, by decide +kernel⟩
theorem ok_law {f : Addr} {fd : FuncData} (F : Fun K "law" "law" (top 21) f fd) (T : Builtins mg) (TT : Cls K mg P w base S C0 f0 d0 C1 f1 d1 C2 f2 d2 C3 f3 d3 C4 f4 d4 C5 f5 d5 C6 f6 d6 C7 f7 d7 C8 f8 d8 C9 f9 d9 C10 f10 d10 C11 f11 d11 C12 f12 d12 C13 f13 d13)
    (n0_0 : PySem.W.findIn K (.ref C0) "column" = some none)
    (n1_0 : PySem.W.findIn K (.ref C1) "line" = some none)
    (n1_1 : PySem.W.findIn K (.ref C1) "column" = some none)
    (n2_0 : PySem.W.findIn K (.ref C2) "what" = some none)
    (n2_1 : PySem.W.findIn K (.ref C2) "number" = some none)
    (n3_0 : PySem.W.findIn K (.ref C3) "row" = some none)
    (n4_0 : PySem.W.findIn K (.ref C4) "name" = some none)
    (n5_0 : PySem.W.findIn K (.ref C5) "cell" = some none)
    (n6_0 : PySem.W.findIn K (.ref C6) "index" = some none)
    (n7_0 : PySem.W.findIn K (.ref C7) "stage" = some none)
    (n7_1 : PySem.W.findIn K (.ref C7) "tile" = some none)
    (n8_0 : PySem.W.findIn K (.ref C8) "name" = some none)
    (n9_0 : PySem.W.findIn K (.ref C9) "name" = some none)
    (n10_0 : PySem.W.findIn K (.ref C10) "what" = some none)
    (n11_0 : PySem.W.findIn K (.ref C11) "promise" = some none)
    (n11_1 : PySem.W.findIn K (.ref C11) "witness" = some none)
    {a1 a2 a3 : Addr} {e1 e2 e3 : FuncData} (F_law_pen : Fn K mg P w base CX0 "_law_pen" 1 a1 e1 ["_law_script"] (spPen K)) (F_law_pick : Fn K mg P w base CX0 "_law_pick" 2 a2 e2 ["_law_pen_here", "_law_some"] (spPick K)) (F_law_kinds : Fn K mg P w base CX0 "_law_kinds" 1 a3 e3 ["_law_error"] (spKinds K mg S)) :
    FnOk P w K mg base CX0 3 f fd ["_law_script"] (spLaw K) := by
  have sc := sc_law
  refine F.ok sc_law (fun vs H Q E h => ?_) (fun cdv A outer s H vs Q E hr h => ?_)
  · obtain ⟨a, ns, rfl, _⟩ := h
    rfl
  · obtain ⟨a, ns, rfl, hS, hlen, q⟩ := h
    have hu := hu_of hr
    refine ⟨_, (pss_cons (ps_set (i := 1) sc.nd rfl (.inl rfl) (pe_call F_law_pen.G (hr.mono (by decide)) (by rfl) F_law_pen.g F_law_pen.k F_law_pen.b .nil pass0 (pa_cons (pv 0) pa_nil)))
      (pss_cons (ps_set (i := 2) sc.nd rfl (.inl rfl) (pe_call F_law_pick.G (hr.mono (by decide)) (by rfl) F_law_pick.g F_law_pick.k F_law_pick.b .nil pass0 (pa_cons (pv 1) (pa_cons (pe_lst (pa_cons pe_int (pa_cons pe_str (pa_cons pe_non (pa_cons (pe_tup (pa_cons pe_int (pa_cons pe_int pa_nil))) (pa_cons (pe_lst (pa_cons pe_int (pa_cons pe_int pa_nil))) (pa_cons pe_bl pa_nil))))))) pa_nil))))
      (pss_cons (ps_set (i := 3) sc.nd rfl (.inl rfl) (pe_call F_law_pick.G (hr.mono (by decide)) (by rfl) F_law_pick.g F_law_pick.k F_law_pick.b .nil pass0 (pa_cons (pv 1) (pa_cons (pe_lst (pa_cons pe_int (pa_cons pe_str (pa_cons (pe_tup (pa_cons pe_str pa_nil)) (pa_cons (pe_lst pa_nil) (pa_cons (pe_disp (pps_cons pe_str pe_int pps_nil) (by rfl) (by rfl) (fun z => by cases z) (by decide)) pa_nil)))))) pa_nil))))
      (pss_cons (ps_asg (pe_tup (pa_cons (pe_exv TT.c1.oex TT.c1.i TT.c1.t TT.c1.G (hr.mono (by decide)) TT.c1.b pass0 (by rfl) TT.c1.e.g (pa_cons (pv 2) (pa_cons (pv 3) pa_nil))) (pa_cons (pe_exv TT.c2.oex TT.c2.i TT.c2.t TT.c2.G (hr.mono (by decide)) TT.c2.b pass0 (by rfl) TT.c2.e.g (pa_cons (pv 2) (pa_cons (pv 3) pa_nil))) (pa_cons (pe_exv TT.c7.oex TT.c7.i TT.c7.t TT.c7.G (hr.mono (by decide)) TT.c7.b pass0 (by rfl) TT.c7.e.g (pa_cons (pv 2) (pa_cons (pv 3) pa_nil))) (pa_cons (pe_exv TT.c11.oex TT.c11.i TT.c11.t TT.c11.G (hr.mono (by decide)) TT.c11.b pass0 (by rfl) TT.c11.e.g (pa_cons (pv 2) (pa_cons (pv 3) pa_nil))) pa_nil))))) (pg_tup (by rfl) (pgs_cons (pg_name (i := 4) sc.nd rfl (.inl rfl)) (pgs_cons (pg_name (i := 5) sc.nd rfl (.inl rfl)) (pgs_cons (pg_name (i := 6) sc.nd rfl (.inl rfl)) (pgs_cons (pg_name (i := 7) sc.nd rfl (.inl rfl)) pgs_nil))))))
      (pss_cons (ps_set (i := 8) sc.nd rfl (.inl rfl) (pe_lst (pa_cons (pe_xv (pv 4)) (pa_cons (pe_xv (pv 4)) (pa_cons (pe_xv (pv 5)) (pa_cons (pe_xv (pv 5)) (pa_cons (pe_xv (pv 6)) (pa_cons (pe_xv (pv 6)) (pa_cons (pe_xv (pv 7)) (pa_cons (pe_xv (pv 7)) pa_nil))))))))))
      (pss_cons (ps_if (pt_cmpR (op_neSame (Nat.lt_of_succ_lt hu)) (pv 8) (pe_op op_rep (pe_lst (pa_cons (pv 2) (pa_cons (pv 3) pa_nil))) pe_int) (nomark _)) (pss_one (ps_ret pe_bl)) pss_nil)
      (pss_cons (ps_asg (pe_tup (pa_cons (pe_exv TT.c0.oex TT.c0.i TT.c0.t TT.c0.G (hr.mono (by decide)) TT.c0.b pass0 (by rfl) TT.c0.e.g (pa_cons (pv 2) pa_nil)) (pa_cons (pe_exv TT.c3.oex TT.c3.i TT.c3.t TT.c3.G (hr.mono (by decide)) TT.c3.b pass0 (by rfl) TT.c3.e.g (pa_cons (pv 2) pa_nil)) (pa_cons (pe_exv TT.c4.oex TT.c4.i TT.c4.t TT.c4.G (hr.mono (by decide)) TT.c4.b pass0 (by rfl) TT.c4.e.g (pa_cons (pv 2) pa_nil)) (pa_cons (pe_exv TT.c5.oex TT.c5.i TT.c5.t TT.c5.G (hr.mono (by decide)) TT.c5.b pass0 (by rfl) TT.c5.e.g (pa_cons (pv 2) pa_nil)) (pa_cons (pe_exv TT.c6.oex TT.c6.i TT.c6.t TT.c6.G (hr.mono (by decide)) TT.c6.b pass0 (by rfl) TT.c6.e.g (pa_cons (pv 2) pa_nil)) pa_nil)))))) (pg_tup (by rfl) (pgs_cons (pg_name (i := 9) sc.nd rfl (.inl rfl)) (pgs_cons (pg_name (i := 10) sc.nd rfl (.inl rfl)) (pgs_cons (pg_name (i := 11) sc.nd rfl (.inl rfl)) (pgs_cons (pg_name (i := 12) sc.nd rfl (.inl rfl)) (pgs_cons (pg_name (i := 13) sc.nd rfl (.inl rfl)) pgs_nil)))))))
      (pss_cons (ps_par3 (i := 14) (j := 15) (l := 16) (by rfl) sc.nd rfl rfl rfl (by decide) (by decide) (by decide) rfl rfl rfl (pa_cons (pe_exv TT.c8.oex TT.c8.i TT.c8.t TT.c8.G (hr.mono (by decide)) TT.c8.b pass0 (by rfl) TT.c8.e.g (pa_cons (pv 2) pa_nil)) (pa_cons (pe_exv TT.c9.oex TT.c9.i TT.c9.t TT.c9.G (hr.mono (by decide)) TT.c9.b pass0 (by rfl) TT.c9.e.g (pa_cons (pv 2) pa_nil)) (pa_cons (pe_exv TT.c10.oex TT.c10.i TT.c10.t TT.c10.G (hr.mono (by decide)) TT.c10.b pass0 (by rfl) TT.c10.e.g (pa_cons (pv 2) pa_nil)) pa_nil))) (by rfl))
      (pss_cons (ps_set (i := 8) sc.nd rfl (.inl rfl) (pe_lst (pa_cons (pe_xv (pv 9)) (pa_cons (pe_xv (pv 10)) (pa_cons (pe_xv (pv 11)) (pa_cons (pe_xv (pv 12)) (pa_cons (pe_xv (pv 13)) (pa_cons (pe_xv (pv 14)) (pa_cons (pe_xv (pv 15)) (pa_cons (pe_xv (pv 16)) pa_nil))))))))))
      (pss_cons (ps_if (pt_cmpR (op_neSame (Nat.lt_of_succ_lt hu)) (pv 8) (pe_op op_rep (pe_lst (pa_cons (pv 2) pa_nil)) pe_int) (nomark _)) (pss_one (ps_ret pe_bl)) pss_nil)
      (pss_cons (ps_set (i := 17) sc.nd rfl (.inl rfl) (pe_lst (pa_cons (pv 9) (pa_cons (pv 4) (pa_cons (pv 5) (pa_cons (pv 10) (pa_cons (pv 11) (pa_cons (pv 12) (pa_cons (pv 13) (pa_cons (pv 6) (pa_cons (pv 14) (pa_cons (pv 15) (pa_cons (pv 16) (pa_cons (pv 7) pa_nil))))))))))))))
      (pss_cons (ps_set (i := 17) sc.nd rfl (.inl rfl) (pe_op op_cat (pv 17) (pe_lst (pa_cons (pe_exv0 TT.c12.oex TT.c12.i TT.c12.t TT.c12.G (hr.mono (by decide)) TT.c12.b pass0 (by rfl) TT.c12.e.g) (pa_cons (pe_exv0 TT.c13.oex TT.c13.i TT.c13.t TT.c13.G (hr.mono (by decide)) TT.c13.b pass0 (by rfl) TT.c13.e.g) pa_nil)))))
      (pss_cons (ps_for PassesOwn.never rfl (pi_range1 (by rfl) T.range (pa_cons pe_int pa_nil)) (pg_name (i := 18) sc.nd rfl (.inr rfl)) (pss_one (ps_if (pt_cmpR (op_neSame (Nat.lt_of_succ_lt hu)) (pe_call F_law_kinds.G (hr.mono (by decide)) (by rfl) F_law_kinds.g F_law_kinds.k F_law_kinds.b .nil pass0 (pa_cons (pe_ix ix_list (pv 17) (pv 18) (fun _ _ => rfl)) pa_nil)) (pe_lc (own := [("_law_k", 19)]) (g := gName 19) (tt := tYes) rfl sc.nd (pi_range1 (by rfl) T.range (pa_cons pe_int pa_nil)) (blkOk_by (N := ["_law_script", "_law_pen_here", "_law_one", "_law_two", "_law_line", "_law_number", "_law_tile", "_law_kept", "_law_told", "_law_text", "_law_row", "_law_name", "_law_cell", "_law_gate", "_law_none", "_law_taken", "_law_unlike", "_law_errors", "_law_place", "_law_k"]) (sc := defScope (top 21)) (by decide +kernel)) (fun _ _ _ _ _ => (pg_name (i := 19) sc.nd rfl (.inl rfl))) (fun _ _ _ _ _ => pts_nil) (fun _ _ _ _ _ => (pe_cmpR op_eq (pv 19) (pv 18) (nomark _)))) (nomark _)) (pss_one (ps_ret pe_bl)) pss_nil)))
      (pss_one (ps_ret (pe_and (pe_callB call_isX (by rfl) T.isinstance (by decide +kernel) (pa_cons (pe_exc0 PySem.F.excBase_ValueError TT.x TT.s.g TT.s.kC (by rfl)) (pa_cons (pe_bltn (v := .ty "ValueError") (by rfl) T.ValueError (by decide +kernel) rfl) pa_nil))) (pe_one (pe_cmpR (op_eqV hr.units) (pe_call F_law_kinds.G (hr.mono (by decide)) (by rfl) F_law_kinds.g F_law_kinds.k F_law_kinds.b .nil pass0 (pa_cons (pe_exc0 PySem.F.excBase_ValueError TT.x TT.s.g TT.s.kC (by rfl)) pa_nil)) (pe_op op_rep (pe_lst (pa_cons pe_bl pa_nil)) pe_int) (nomark _))))))))))))))))))), ?_⟩
    -- the pen
    refine ⟨_, rfl, a, ns, rfl, hS, hlen, fun p c H1 hp hc s1 P1 => ?_⟩
    refine ⟨_, rfl, (by show 2 ≤ sizeLine; decide), fun t1 h1 => ⟨(by show 2 ≤ sizeLine; decide), fun l1 g1 => ⟨(by show 6 ≤ sizeLine; decide), fun l2 g2 => ?_⟩⟩⟩
    have u1 : Same H1 _ := (same_upd h1 (o := .tup [.int 1, .int 2])).trans ((same_upd g1 (o := .lst [.int 1, .int 2])).trans (same_upd g2 (o := .lst [.int 3, .str "name", .non, .ref t1, .ref l1, .bl true])))
    refine ⟨p, c, l2, 0, _, rfl, P1.same u1, by decide, SqL.of upd_same, by show 0 < 6; decide, by show 6 < 1000000; decide, fun i x1 H2 hi P2 b2 => ?_⟩
    refine at_sig (σ' := [some (.ref a), some (.ref p), some (x1), none, none, none, none, none, none, none, none, none, none, none, none, none, none, none, none, none]) rfl ?_
    have o1 : okV x1 := by
      have z := List.mem_of_getElem? hi
      simp only [List.mem_cons, List.not_mem_nil, or_false] at z
      rcases z with rfl | rfl | rfl | rfl | rfl | rfl <;> first | exact .inl rfl | exact .inr ⟨_, rfl⟩
    refine ⟨_, rfl, (by show 1 ≤ sizeLine; decide), fun t2 h2 => ⟨(by show 0 ≤ sizeLine; decide), fun l3 g3 => fun m1 hm1 => ⟨upd_same, [(.inr "a", .int 1)], rfl, (by show 1 ≤ 15; decide), ⟨(by show 5 ≤ sizeLine; decide), fun l4 g4 => ?_⟩⟩⟩⟩
    have f1 : H2 m1 = none := ((same_upd h2).trans (same_upd g3)).free hm1
    have u2' : Same H2 _ := same_mut ((same_upd h2).trans ((same_upd g3).trans (same_upd hm1 (o := .dK [])))) f1 (o := .dK (mergeK [] [(.inr "a", .int 1)]))
    have u2 := u2'.trans (same_upd g4 (o := .lst [.int 0, .str "", .ref t2, .ref l3, .ref m1]))
    refine ⟨p, c, l4, 1, _, rfl, P2.same u2, by decide, SqL.of upd_same, by show 0 < 5; decide, by show 5 < 1000000; decide, fun j x2 H3 hj P3 b3 => ?_⟩
    refine at_sig (σ' := [some (.ref a), some (.ref p), some (x1), some (x2), none, none, none, none, none, none, none, none, none, none, none, none, none, none, none, none]) rfl ?_
    have o2 : okV x2 := by
      have z := List.mem_of_getElem? hj
      simp only [List.mem_cons, List.not_mem_nil, or_false] at z
      rcases z with rfl | rfl | rfl | rfl | rfl <;> first | exact .inl rfl | exact .inr ⟨_, rfl⟩
    clear hi hj P2 b2 u1 P1 g2 g1 h1 u2 u2' f1 g4 hm1 g3 h2 b3
    refine ⟨_, rfl, _, rfl, (by show 2 ≤ 1000; decide), fun a1 z1 => ⟨a1, x1, x2, rfl, upd_same, fun H4 k4 v1 => ⟨rfl, _, rfl, _, rfl, (by show 2 ≤ 1000; decide), fun a2 z2 => ⟨a2, x1, x2, rfl, upd_same, fun H5 k5 v2 => ⟨rfl, _, rfl, _, rfl, (by show 2 ≤ 1000; decide), fun a7 z7 => ⟨a7, x1, x2, rfl, upd_same, fun H6 k6 v7 => ⟨rfl, _, rfl, _, rfl, (by show 2 ≤ 1000; decide), fun a11 z11 => ⟨a11, x1, x2, rfl, upd_same, fun H7 k7 v11 => ⟨rfl, (by show 4 ≤ sizeLine; decide), fun tt ht => ⟨tt, _, rfl, .inl (.inl upd_same), rfl, _, _, rfl, _, _, rfl, _, _, rfl, _, _, rfl, rfl, with_new ht (fun H8 s8 _ => ?_)⟩⟩⟩⟩⟩⟩⟩⟩⟩⟩
    refine at_sig (σ' := [some (.ref a), some (.ref p), some (x1), some (x2), some (.ref a1), some (.ref a2), some (.ref a7), some (.ref a11), none, none, none, none, none, none, none, none, none, none, none, none]) rfl ?_
    have s4 := same_made z1 k4
    have s5 := same_made z2 k5
    have s6 := same_made z7 k6
    have s7 := same_made z11 k7
    replace v1 := v1.same (s5.trans (s6.trans (s7.trans s8)))
    replace v2 := v2.same (s6.trans (s7.trans s8))
    replace v7 := v7.same (s7.trans s8)
    replace v11 := v11.same s8
    clear s4 s5 s6 s7 s8 z1 z2 z7 z11 k4 k5 k6 k7 ht
    obtain ⟨y1, r1, t1⟩ := id v1
    obtain ⟨y2, r2, t2⟩ := id v2
    obtain ⟨y7, r7, t7⟩ := id v7
    obtain ⟨y11, r11, t11⟩ := id v11
    refine ⟨_, rfl, a1, C1, y1, _, x1, rfl, r1, t1, TT.c1.xk, n1_0, (by kernel_rfl), _, rfl, a1, C1, y1, _, x2, rfl, r1, t1, TT.c1.xk, n1_1, (by kernel_rfl), _, rfl, a2, C2, y2, _, x1, rfl, r2, t2, TT.c2.xk, n2_0, (by kernel_rfl), _, rfl, a2, C2, y2, _, x2, rfl, r2, t2, TT.c2.xk, n2_1, (by kernel_rfl), _, rfl, a7, C7, y7, _, x1, rfl, r7, t7, TT.c7.xk, n7_0, (by kernel_rfl), _, rfl, a7, C7, y7, _, x2, rfl, r7, t7, TT.c7.xk, n7_1, (by kernel_rfl), _, rfl, a11, C11, y11, _, x1, rfl, r11, t11, TT.c11.xk, n11_0, (by kernel_rfl), _, rfl, a11, C11, y11, _, x2, rfl, r11, t11, TT.c11.xk, n11_1, (by kernel_rfl), (by show 8 ≤ sizeLine; decide), fun l8 h8 => with_new h8 (fun H9 s9 e9 => ?_)⟩
    refine at_sig (σ' := [some (.ref a), some (.ref p), some (x1), some (x2), some (.ref a1), some (.ref a2), some (.ref a7), some (.ref a11), some (.ref l8), none, none, none, none, none, none, none, none, none, none, none]) rfl ?_
    refine ⟨_, rfl, _, rfl, _, rfl, (by show 2 ≤ sizeLine; decide), fun b1 hb1 => ⟨b1, 4, _, rfl, rfl, upd_same, by decide, by decide, (by show 8 ≤ sizeLine; decide), fun b2 hb2 => ?_⟩⟩
    refine ⟨l8, b2, [x1, x2, x1, x2, x1, x2, x1, x2], rfl, rfl, SqL.of ((same_upd hb1).trans (same_upd hb2) _ _ e9), SqL.of upd_same, ?_, false, rfl, iteF ?_⟩
    · intro v hv
      simp only [List.mem_cons, List.not_mem_nil, or_false] at hv
      rcases hv with rfl | rfl | rfl | rfl | rfl | rfl | rfl | rfl <;> first | exact o1 | exact o2
    refine with_new hb2 (fun H10 s10 _ => ?_)
    refine at_sig (σ' := [some (.ref a), some (.ref p), some (x1), some (x2), some (.ref a1), some (.ref a2), some (.ref a7), some (.ref a11), some (.ref l8), none, none, none, none, none, none, none, none, none, none, none]) rfl ?_
    have s10' := s9.trans ((same_upd hb1).trans s10)
    replace v1 := v1.same s10'
    replace v2 := v2.same s10'
    replace v7 := v7.same s10'
    replace v11 := v11.same s10'
    clear s10' s10 hb2 hb1 e9 s9 h8 r1 t1 r2 t2 r7 t7 r11 t11
    refine ⟨_, rfl, (by show 1 ≤ 1000; decide), fun a0 z0 => ⟨a0, x1, rfl, upd_same, fun H11 k11 v0 => ⟨rfl, _, rfl, (by show 1 ≤ 1000; decide), fun a3 z3 => ⟨a3, x1, rfl, upd_same, fun H12 k12 v3 => ⟨rfl, _, rfl, (by show 1 ≤ 1000; decide), fun a4 z4 => ⟨a4, x1, rfl, upd_same, fun H13 k13 v4 => ⟨rfl, _, rfl, (by show 1 ≤ 1000; decide), fun a5 z5 => ⟨a5, x1, rfl, upd_same, fun H14 k14 v5 => ⟨rfl, _, rfl, (by show 1 ≤ 1000; decide), fun a6 z6 => ⟨a6, x1, rfl, upd_same, fun H15 k15 v6 => ⟨rfl, (by show 5 ≤ sizeLine; decide), fun tt ht => ⟨tt, _, rfl, .inl (.inl upd_same), rfl, _, _, rfl, _, _, rfl, _, _, rfl, _, _, rfl, _, _, rfl, rfl, with_new ht (fun H16 s16 _ => ?_)⟩⟩⟩⟩⟩⟩⟩⟩⟩⟩⟩⟩
    refine at_sig (σ' := [some (.ref a), some (.ref p), some (x1), some (x2), some (.ref a1), some (.ref a2), some (.ref a7), some (.ref a11), some (.ref l8), some (.ref a0), some (.ref a3), some (.ref a4), some (.ref a5), some (.ref a6), none, none, none, none, none, none]) rfl ?_
    have s11 := same_made z0 k11
    have s12 := same_made z3 k12
    have s13 := same_made z4 k13
    have s14 := same_made z5 k14
    have s15 := same_made z6 k15
    refine ⟨_, rfl, (by show 1 ≤ 1000; decide), fun a8 z8 => ⟨a8, x1, rfl, upd_same, fun H17 k17 v8 => ⟨rfl, _, rfl, (by show 1 ≤ 1000; decide), fun a9 z9 => ⟨a9, x1, rfl, upd_same, fun H18 k18 v9 => ⟨rfl, _, rfl, (by show 1 ≤ 1000; decide), fun a10 z10 => ⟨a10, x1, rfl, upd_same, fun H19 k19 v10 => ⟨rfl, _, _, _, rfl, ?_⟩⟩⟩⟩⟩⟩⟩
    refine at_sig (σ' := [some (.ref a), some (.ref p), some (x1), some (x2), some (.ref a1), some (.ref a2), some (.ref a7), some (.ref a11), some (.ref l8), some (.ref a0), some (.ref a3), some (.ref a4), some (.ref a5), some (.ref a6), some (.ref a8), some (.ref a9), some (.ref a10), none, none, none]) rfl ?_
    have s17 := same_made z8 k17
    have s18 := same_made z9 k18
    have s19 := same_made z10 k19
    have all := s11.trans (s12.trans (s13.trans (s14.trans (s15.trans (s16.trans (s17.trans (s18.trans s19)))))))
    replace v1 := v1.same all
    replace v2 := v2.same all
    replace v7 := v7.same all
    replace v11 := v11.same all
    replace v0 := v0.same (s12.trans (s13.trans (s14.trans (s15.trans (s16.trans (s17.trans (s18.trans s19)))))))
    replace v3 := v3.same (s13.trans (s14.trans (s15.trans (s16.trans (s17.trans (s18.trans s19))))))
    replace v4 := v4.same (s14.trans (s15.trans (s16.trans (s17.trans (s18.trans s19)))))
    replace v5 := v5.same (s15.trans (s16.trans (s17.trans (s18.trans s19))))
    replace v6 := v6.same (s16.trans (s17.trans (s18.trans s19)))
    replace v8 := v8.same (s18.trans s19)
    replace v9 := v9.same s19
    clear all s11 s12 s13 s14 s15 s16 s17 s18 s19
    obtain ⟨y0, r0, t0⟩ := id v0
    obtain ⟨y3, r3, t3⟩ := id v3
    obtain ⟨y4, r4, t4⟩ := id v4
    obtain ⟨y5, r5, t5⟩ := id v5
    obtain ⟨y6, r6, t6⟩ := id v6
    obtain ⟨y8, r8, t8⟩ := id v8
    obtain ⟨y9, r9, t9⟩ := id v9
    obtain ⟨y10, r10, t10⟩ := id v10
    refine ⟨_, rfl, a0, C0, y0, _, x1, rfl, r0, t0, TT.c0.xk, n0_0, (by kernel_rfl), _, rfl, a3, C3, y3, _, x1, rfl, r3, t3, TT.c3.xk, n3_0, (by kernel_rfl), _, rfl, a4, C4, y4, _, x1, rfl, r4, t4, TT.c4.xk, n4_0, (by kernel_rfl), _, rfl, a5, C5, y5, _, x1, rfl, r5, t5, TT.c5.xk, n5_0, (by kernel_rfl), _, rfl, a6, C6, y6, _, x1, rfl, r6, t6, TT.c6.xk, n6_0, (by kernel_rfl), _, rfl, a8, C8, y8, _, x1, rfl, r8, t8, TT.c8.xk, n8_0, (by kernel_rfl), _, rfl, a9, C9, y9, _, x1, rfl, r9, t9, TT.c9.xk, n9_0, (by kernel_rfl), _, rfl, a10, C10, y10, _, x1, rfl, r10, t10, TT.c10.xk, n10_0, (by kernel_rfl), (by show 8 ≤ sizeLine; decide), fun l9 h9 => with_new h9 (fun H20 s20 e20 => ?_)⟩
    refine at_sig (σ' := [some (.ref a), some (.ref p), some (x1), some (x2), some (.ref a1), some (.ref a2), some (.ref a7), some (.ref a11), some (.ref l9), some (.ref a0), some (.ref a3), some (.ref a4), some (.ref a5), some (.ref a6), some (.ref a8), some (.ref a9), some (.ref a10), none, none, none]) rfl ?_
    refine ⟨_, rfl, _, rfl, (by show 1 ≤ sizeLine; decide), fun b1 hb1 => ⟨b1, 8, _, rfl, rfl, upd_same, by decide, by decide, (by show 8 ≤ sizeLine; decide), fun b2 hb2 => ?_⟩⟩
    refine ⟨l9, b2, [x1, x1, x1, x1, x1, x1, x1, x1], rfl, rfl, SqL.of ((same_upd hb1).trans (same_upd hb2) _ _ e20), SqL.of upd_same, ?_, false, rfl, iteF ?_⟩
    · intro v hv
      simp only [List.mem_cons, List.not_mem_nil, or_false] at hv
      rcases hv with rfl | rfl | rfl | rfl | rfl | rfl | rfl | rfl <;> exact o1
    refine with_new hb2 (fun H21 s21 _ => ?_)
    refine at_sig (σ' := [some (.ref a), some (.ref p), some (x1), some (x2), some (.ref a1), some (.ref a2), some (.ref a7), some (.ref a11), some (.ref l9), some (.ref a0), some (.ref a3), some (.ref a4), some (.ref a5), some (.ref a6), some (.ref a8), some (.ref a9), some (.ref a10), none, none, none]) rfl ?_
    have s21' := s20.trans ((same_upd hb1).trans s21)
    replace v0 := (v0.same s21').at
    replace v1 := (v1.same s21').at
    replace v2 := (v2.same s21').at
    replace v3 := (v3.same s21').at
    replace v4 := (v4.same s21').at
    replace v5 := (v5.same s21').at
    replace v6 := (v6.same s21').at
    replace v7 := (v7.same s21').at
    replace v8 := (v8.same s21').at
    replace v9 := (v9.same s21').at
    replace v10 := (v10.same s21').at
    replace v11 := (v11.same s21').at
    clear s21' s21 hb2 hb1 e20 s20 h9
    -- the list of all
    refine ⟨_, rfl, _, rfl, _, rfl, _, rfl, _, rfl, _, rfl, _, rfl, _, rfl, _, rfl, _, rfl, _, rfl, _, rfl, (by show 12 ≤ sizeLine; decide), fun l10 h10 => with_new h10 (fun H22 s22 e22 => ?_)⟩
    refine at_sig (σ' := [some (.ref a), some (.ref p), some (x1), some (x2), some (.ref a1), some (.ref a2), some (.ref a7), some (.ref a11), some (.ref l9), some (.ref a0), some (.ref a3), some (.ref a4), some (.ref a5), some (.ref a6), some (.ref a8), some (.ref a9), some (.ref a10), some (.ref l10), none, none]) rfl ?_
    refine ⟨_, rfl, (by show 0 ≤ 1000; decide), fun a12 z12 => ⟨a12, rfl, upd_same, rfl, (by show 0 ≤ 1000; decide), fun a13 z13 => ⟨a13, rfl, upd_same, rfl, (by show 2 ≤ sizeLine; decide), fun l11 h11 => ⟨l10, l11, _, _, rfl, rfl, (same_upd z12).trans ((same_upd z13).trans (same_upd h11)) _ _ e22, upd_same, (by show 14 ≤ sizeLine; decide), fun l12 h12 => with_new h12 (fun H23 s23 e23 => ?_)⟩⟩⟩⟩
    refine at_sig (σ' := [some (.ref a), some (.ref p), some (x1), some (x2), some (.ref a1), some (.ref a2), some (.ref a7), some (.ref a11), some (.ref l9), some (.ref a0), some (.ref a3), some (.ref a4), some (.ref a5), some (.ref a6), some (.ref a8), some (.ref a9), some (.ref a10), some (.ref l12), none, none]) rfl ?_
    have S23 := (same_upd z12 (o := exo a12 C12 none)).trans ((same_upd z13 (o := exo a13 C13 none)).trans ((same_upd h11 (o := .lst [.ref a12, .ref a13])).trans s23))
    have S22 := s22.trans S23
    have v12 : ExcAt H23 a12 C12 := ExcAt.same ((same_upd z13 (o := exo a13 C13 none)).trans ((same_upd h11 (o := .lst [.ref a12, .ref a13])).trans s23)) (.inr (.inl upd_same))
    have v13 : ExcAt H23 a13 C13 := ExcAt.same ((same_upd h11 (o := .lst [.ref a12, .ref a13])).trans s23) (.inr (.inl upd_same))
    have hEv : ∀ i, i < 14 → ∃ ai Ci nm, ([.ref a0, .ref a1, .ref a2, .ref a3, .ref a4, .ref a5, .ref a6, .ref a7, .ref a8, .ref a9, .ref a10, .ref a11, .ref a12, .ref a13] : List V)[i]? = some (.ref ai) ∧ ExcAt H23 ai Ci ∧ Err K mg (.ref S :: veT) nm Ci ∧ nm = names14.getD i "" := by
      intro i hi
      match i, hi with
      | 0, _ => exact ⟨a0, C0, _, rfl, (ExcAt.same S22 v0), TT.c0.e, by decide +kernel⟩
      | 1, _ => exact ⟨a1, C1, _, rfl, (ExcAt.same S22 v1), TT.c1.e, by decide +kernel⟩
      | 2, _ => exact ⟨a2, C2, _, rfl, (ExcAt.same S22 v2), TT.c2.e, by decide +kernel⟩
      | 3, _ => exact ⟨a3, C3, _, rfl, (ExcAt.same S22 v3), TT.c3.e, by decide +kernel⟩
      | 4, _ => exact ⟨a4, C4, _, rfl, (ExcAt.same S22 v4), TT.c4.e, by decide +kernel⟩
      | 5, _ => exact ⟨a5, C5, _, rfl, (ExcAt.same S22 v5), TT.c5.e, by decide +kernel⟩
      | 6, _ => exact ⟨a6, C6, _, rfl, (ExcAt.same S22 v6), TT.c6.e, by decide +kernel⟩
      | 7, _ => exact ⟨a7, C7, _, rfl, (ExcAt.same S22 v7), TT.c7.e, by decide +kernel⟩
      | 8, _ => exact ⟨a8, C8, _, rfl, (ExcAt.same S22 v8), TT.c8.e, by decide +kernel⟩
      | 9, _ => exact ⟨a9, C9, _, rfl, (ExcAt.same S22 v9), TT.c9.e, by decide +kernel⟩
      | 10, _ => exact ⟨a10, C10, _, rfl, (ExcAt.same S22 v10), TT.c10.e, by decide +kernel⟩
      | 11, _ => exact ⟨a11, C11, _, rfl, (ExcAt.same S22 v11), TT.c11.e, by decide +kernel⟩
      | 12, _ => exact ⟨a12, C12, _, rfl, v12, TT.c12.e, by decide +kernel⟩
      | 13, _ => exact ⟨a13, C13, _, rfl, v13, TT.c13.e, by decide +kernel⟩
      | n + 14, h => omega
    clear v12 v13 S22 S23 v0 v1 v2 v3 v4 v5 v6 v7 v8 v9 v10 v11
    have xkS : ExcK K S := TT.s.xk (by decide +kernel) (by decide +kernel)
    have kitV : PySem.W.kitOne K (.ref S) (.type "ValueError") = some true := TT.s.kitT (by decide +kernel) (by decide +kernel)
    refine ⟨14, rfl, by decide, by decide, for_range (lo := 0) (n := 14) (fun i σ H' => ∃ v : Option V, σ = [some (.ref a), some (.ref p), some (x1), some (x2), some (.ref a1), some (.ref a2), some (.ref a7), some (.ref a11), some (.ref l9), some (.ref a0), some (.ref a3), some (.ref a4), some (.ref a5), some (.ref a6), some (.ref a8), some (.ref a9), some (.ref a10), some (.ref l12), v, none] ∧ Same H23 H') ⟨none, rfl, Same.refl _⟩ ?_ ?_⟩
    · rintro i σ H' hi ⟨v, rfl, s⟩
      obtain ⟨ai, Ci, nm, hitem, hx, he, hnm⟩ := hEv i hi
      refine ⟨_, rfl, _, rfl, l12, _, _, .ref ai, rfl, rfl, SqL.of (s _ _ e23), at_of (by omega) hitem, ai, Ci, nm, _, rfl, ExcAt.same s hx, he, .inl rfl, fun q1 H1 nq sq eq => ?_⟩
      refine ⟨14, rfl, by decide, by decide, fun D hD => lc_range (lo := 0) (n := 14) (fun k H2 => Same H1 H2 ∧ H2 D = some (.lst ((List.range k).map fun (k : Nat) => V.bl (decide (V.int (0 + (k : Int)) = V.int (0 + (i : Int))))))) ⟨same_upd hD, upd_same⟩ ?_ ?_⟩
      · rintro k H2 hk ⟨s2, e2⟩
        refine ⟨rfl, ?_⟩
        refine iteT (B := (Same H1 H2 ∧ H2 D = some (.lst ((List.range (k+1)).map fun (k : Nat) => V.bl (decide (V.int (0 + (k : Int)) = V.int (0 + (i : Int)))))))) ?_
        refine ⟨_, rfl, _, rfl, rfl, _, e2, ?_, same_mut s2 hD, ?_⟩
        · rw [List.length_map, List.length_range]
          exact small1000 (by omega)
        · rw [upd_same, List.range_succ, List.map_append]
          rfl
      · rintro H2 ⟨s2, e2⟩
        rw [← kinds_at i hi, ← hnm] at e2
        exact ⟨q1, D, kindsOf nm, rfl, rfl, SqL.of (s2 _ _ eq), SqL.of e2, kinds_flat, false, rfl, iteF ⟨_, rfl, s.trans (sq.trans s2)⟩⟩
    · rintro σ H' ⟨v, rfl, s⟩
      refine fun b1 hb1 => ⟨b1, S, _, _, _, rfl, .ty _, .inl upd_same, xkS, kitV, true, rfl, iteT ?_⟩
      refine fun b2 hb2 => ⟨b2, S, "SparkError", veT, rfl, .inl upd_same, TT.s, .inr ⟨rfl, rfl⟩, fun q2 H2 nq2 sq2 eq2 => ?_⟩
      rw [kinds_none] at eq2
      refine ⟨(by show 1 ≤ sizeLine; decide), fun b3 hb3 => ⟨b3, 14, _, rfl, rfl, upd_same, by decide, by decide, (by show 14 ≤ sizeLine; decide), fun b4 hb4 => ?_⟩⟩
      exact ⟨1, by decide, .inl ⟨q2, b4, _, _, rfl, rfl, SqL.of ((same_upd hb3).trans (same_upd hb4) _ _ eq2), SqL.of upd_same, pairSame (by decide)⟩, q _⟩
end
end Sb
set_option linter.all false
set_option maxRecDepth 100000
set_option maxHeartbeats 8000000
namespace Sb
open PySem PySem.Spec PyProof.Rows L2
theorem all_mk {l : PySem.W.OpenLaw} {w : World} {K : PySem.W.Frag} {h : Heap} {mg : Str → Option Value} {fa : Addr} (X : K.In h) (G : h.Ns mainGlobals mg) (hfa : mg "law" = some (.ref fa))
    {C_SparkError N_SparkError C_BadText N_BadText f_BadText C_BadLine N_BadLine f_BadLine C_BadNumber N_BadNumber f_BadNumber C_BadRow N_BadRow f_BadRow C_BadName N_BadName f_BadName C_BadCell N_BadCell f_BadCell C_BadGate N_BadGate f_BadGate C_BadTile N_BadTile f_BadTile C_NoName N_NoName f_NoName C_TakenName N_TakenName f_TakenName C_Unlike N_Unlike f_Unlike C_NotKept N_NotKept f_NotKept C_NothingToUndo N_NothingToUndo f_NothingToUndo C_NothingToRedo N_NothingToRedo f_NothingToRedo f__law_pen f__law_draw f__law_pick f__law_kinds f_law : Addr} {q_SparkError q_BadText q_BadLine q_BadNumber q_BadRow q_BadName q_BadCell q_BadGate q_BadTile q_NoName q_TakenName q_Unlike q_NotKept q_NothingToUndo q_NothingToRedo : Str} {bs_SparkError sb_SparkError bs_BadText sb_BadText bs_BadLine sb_BadLine bs_BadNumber sb_BadNumber bs_BadRow sb_BadRow bs_BadName sb_BadName bs_BadCell sb_BadCell bs_BadGate sb_BadGate bs_BadTile sb_BadTile bs_NoName sb_NoName bs_TakenName sb_TakenName bs_Unlike sb_Unlike bs_NotKept sb_NotKept bs_NothingToUndo sb_NothingToUndo bs_NothingToRedo sb_NothingToRedo : List Value} {sn_SparkError sn_BadText sn_BadLine sn_BadNumber sn_BadRow sn_BadName sn_BadCell sn_BadGate sn_BadTile sn_NoName sn_TakenName sn_Unlike sn_NotKept sn_NothingToUndo sn_NothingToRedo : List Str} {ab_SparkError ab_BadText ab_BadLine ab_BadNumber ab_BadRow ab_BadName ab_BadCell ab_BadGate ab_BadTile ab_NoName ab_TakenName ab_Unlike ab_NotKept ab_NothingToUndo ab_NothingToRedo : Bool} {co_SparkError co_BadText co_BadLine co_BadNumber co_BadRow co_BadName co_BadCell co_BadGate co_BadTile co_NoName co_TakenName co_Unlike co_NotKept co_NothingToUndo co_NothingToRedo : Option Bool} {dd_SparkError dd_BadText od_BadText an_BadText dd_BadLine od_BadLine an_BadLine dd_BadNumber od_BadNumber an_BadNumber dd_BadRow od_BadRow an_BadRow dd_BadName od_BadName an_BadName dd_BadCell od_BadCell an_BadCell dd_BadGate od_BadGate an_BadGate dd_BadTile od_BadTile an_BadTile dd_NoName od_NoName an_NoName dd_TakenName od_TakenName an_TakenName dd_Unlike od_Unlike an_Unlike dd_NotKept od_NotKept an_NotKept dd_NothingToUndo od_NothingToUndo an_NothingToUndo dd_NothingToRedo od_NothingToRedo an_NothingToRedo od__law_pen an__law_pen od__law_draw an__law_draw od__law_pick an__law_pick od__law_kinds an__law_kinds od_law an_law : Option Addr} {k0_SparkError k1_SparkError k2_SparkError k3_SparkError k5_SparkError k0_BadText k1_BadText k2_BadText k3_BadText k5_BadText k0_BadLine k1_BadLine k2_BadLine k3_BadLine k5_BadLine k0_BadNumber k1_BadNumber k2_BadNumber k3_BadNumber k5_BadNumber k0_BadRow k1_BadRow k2_BadRow k3_BadRow k5_BadRow k0_BadName k1_BadName k2_BadName k3_BadName k5_BadName k0_BadCell k1_BadCell k2_BadCell k3_BadCell k5_BadCell k0_BadGate k1_BadGate k2_BadGate k3_BadGate k5_BadGate k0_BadTile k1_BadTile k2_BadTile k3_BadTile k5_BadTile k0_NoName k1_NoName k2_NoName k3_NoName k5_NoName k0_TakenName k1_TakenName k2_TakenName k3_TakenName k5_TakenName k0_Unlike k1_Unlike k2_Unlike k3_Unlike k5_Unlike k0_NotKept k1_NotKept k2_NotKept k3_NotKept k5_NotKept k0_NothingToUndo k1_NothingToUndo k2_NothingToUndo k3_NothingToUndo k5_NothingToUndo k0_NothingToRedo k1_NothingToRedo k2_NothingToRedo k3_NothingToRedo k5_NothingToRedo : Option Value} {oc_BadText kV_BadText dc_BadText pm_BadText cd_BadText ct_BadText oc_BadLine kV_BadLine dc_BadLine pm_BadLine cd_BadLine ct_BadLine oc_BadNumber kV_BadNumber dc_BadNumber pm_BadNumber cd_BadNumber ct_BadNumber oc_BadRow kV_BadRow dc_BadRow pm_BadRow cd_BadRow ct_BadRow oc_BadName kV_BadName dc_BadName pm_BadName cd_BadName ct_BadName oc_BadCell kV_BadCell dc_BadCell pm_BadCell cd_BadCell ct_BadCell oc_BadGate kV_BadGate dc_BadGate pm_BadGate cd_BadGate ct_BadGate oc_BadTile kV_BadTile dc_BadTile pm_BadTile cd_BadTile ct_BadTile oc_NoName kV_NoName dc_NoName pm_NoName cd_NoName ct_NoName oc_TakenName kV_TakenName dc_TakenName pm_TakenName cd_TakenName ct_TakenName oc_Unlike kV_Unlike dc_Unlike pm_Unlike cd_Unlike ct_Unlike oc_NotKept kV_NotKept dc_NotKept pm_NotKept cd_NotKept ct_NotKept oc_NothingToUndo kV_NothingToUndo dc_NothingToUndo pm_NothingToUndo cd_NothingToUndo ct_NothingToUndo oc_NothingToRedo kV_NothingToRedo dc_NothingToRedo pm_NothingToRedo cd_NothingToRedo ct_NothingToRedo oc__law_pen kV__law_pen dc__law_pen pm__law_pen cd__law_pen ct__law_pen oc__law_draw kV__law_draw dc__law_draw pm__law_draw cd__law_draw ct__law_draw oc__law_pick kV__law_pick dc__law_pick pm__law_pick cd__law_pick ct__law_pick oc__law_kinds kV__law_kinds dc__law_kinds pm__law_kinds cd__law_kinds ct__law_kinds oc_law kV_law dc_law pm_law cd_law ct_law : Value} {sl_BadText sl_BadLine sl_BadNumber sl_BadRow sl_BadName sl_BadCell sl_BadGate sl_BadTile sl_NoName sl_TakenName sl_Unlike sl_NotKept sl_NothingToUndo sl_NothingToRedo sl__law_pen sl__law_draw sl__law_pick sl__law_kinds sl_law : Array (Option Value)}
    (hn : PySem.W.specialIn K (.builtin "object.__class__") "__get__" = some (some (.builtin "getset_descriptor.__get__")))
    (ht : PySem.W.takesIn K (.builtin "object.__class__") = some true)
    (g_SparkError : PySem.W.nsIn K mainGlobals "SparkError" = some (some (.ref C_SparkError)))
    (x_SparkError : K.lookup C_SparkError = some (excClassObj "SparkError" q_SparkError C_SparkError N_SparkError bs_SparkError [.type "ValueError", .type "Exception", .type "BaseException", .type "object"] true sn_SparkError sb_SparkError ab_SparkError co_SparkError dd_SparkError k0_SparkError k1_SparkError k2_SparkError k3_SparkError k5_SparkError "ValueError.__new__"))
    (sa_SparkError : PySem.W.findIn K (.ref C_SparkError) "__setattr__" = some (some (.builtin "object.__setattr__")))
    (ga_SparkError : PySem.W.findIn K (.ref C_SparkError) "__getattribute__" = some (some (.builtin "BaseException.__getattribute__")))
    (gg_SparkError : PySem.W.findIn K (.ref C_SparkError) "__getattr__" = some none)
    (hc_SparkError : PySem.W.findIn K (.ref C_SparkError) "__class__" = some (some (.builtin "object.__class__")))
    (kc_SparkError : PySem.W.keepIn K (.ref C_SparkError) = true)
    (xx : PySem.W.excIn K C_SparkError veT "ValueError.__new__" = true)
    (g_BadText : PySem.W.nsIn K mainGlobals "BadText" = some (some (.ref C_BadText)))
    (x_BadText : K.lookup C_BadText = some (excClassObj "BadText" q_BadText C_BadText N_BadText bs_BadText [.ref C_SparkError, .type "ValueError", .type "Exception", .type "BaseException", .type "object"] true sn_BadText sb_BadText ab_BadText co_BadText dd_BadText k0_BadText k1_BadText k2_BadText k3_BadText k5_BadText "ValueError.__new__"))
    (sa_BadText : PySem.W.findIn K (.ref C_BadText) "__setattr__" = some (some (.builtin "object.__setattr__")))
    (ga_BadText : PySem.W.findIn K (.ref C_BadText) "__getattribute__" = some (some (.builtin "BaseException.__getattribute__")))
    (gg_BadText : PySem.W.findIn K (.ref C_BadText) "__getattr__" = some none)
    (hc_BadText : PySem.W.findIn K (.ref C_BadText) "__class__" = some (some (.builtin "object.__class__")))
    (kc_BadText : PySem.W.keepIn K (.ref C_BadText) = true)
    (n_BadText_column : PySem.W.findIn K (.ref C_BadText) "column" = some none)
    (a_BadText : PySem.W.findIn K (.ref C_BadText) "__init__" = some (some (.ref f_BadText)))
    (l_BadText : K.lookup f_BadText = some ⟨oc_BadText, od_BadText, .func (PySem.W.fnOf "__init__" "BadText.__init__" (defArgs (inClass (top 2) 0)) (defBody (inClass (top 2) 0)) (defScope (inClass (top 2) 0)) .none kV_BadText dc_BadText pm_BadText an_BadText cd_BadText ct_BadText), sl_BadText⟩)
    (c_BadText : PySem.W.codeIn K cd_BadText "BadText.__init__" = true)
    (k_BadText : PySem.W.keepIn K (.ref f_BadText) = true)
    (t_BadText : PySem.W.typeIn K (.ref f_BadText) = some (.type "function"))
    (g_BadLine : PySem.W.nsIn K mainGlobals "BadLine" = some (some (.ref C_BadLine)))
    (x_BadLine : K.lookup C_BadLine = some (excClassObj "BadLine" q_BadLine C_BadLine N_BadLine bs_BadLine [.ref C_SparkError, .type "ValueError", .type "Exception", .type "BaseException", .type "object"] true sn_BadLine sb_BadLine ab_BadLine co_BadLine dd_BadLine k0_BadLine k1_BadLine k2_BadLine k3_BadLine k5_BadLine "ValueError.__new__"))
    (sa_BadLine : PySem.W.findIn K (.ref C_BadLine) "__setattr__" = some (some (.builtin "object.__setattr__")))
    (ga_BadLine : PySem.W.findIn K (.ref C_BadLine) "__getattribute__" = some (some (.builtin "BaseException.__getattribute__")))
    (gg_BadLine : PySem.W.findIn K (.ref C_BadLine) "__getattr__" = some none)
    (hc_BadLine : PySem.W.findIn K (.ref C_BadLine) "__class__" = some (some (.builtin "object.__class__")))
    (kc_BadLine : PySem.W.keepIn K (.ref C_BadLine) = true)
    (n_BadLine_line : PySem.W.findIn K (.ref C_BadLine) "line" = some none)
    (n_BadLine_column : PySem.W.findIn K (.ref C_BadLine) "column" = some none)
    (a_BadLine : PySem.W.findIn K (.ref C_BadLine) "__init__" = some (some (.ref f_BadLine)))
    (l_BadLine : K.lookup f_BadLine = some ⟨oc_BadLine, od_BadLine, .func (PySem.W.fnOf "__init__" "BadLine.__init__" (defArgs (inClass (top 3) 0)) (defBody (inClass (top 3) 0)) (defScope (inClass (top 3) 0)) .none kV_BadLine dc_BadLine pm_BadLine an_BadLine cd_BadLine ct_BadLine), sl_BadLine⟩)
    (c_BadLine : PySem.W.codeIn K cd_BadLine "BadLine.__init__" = true)
    (k_BadLine : PySem.W.keepIn K (.ref f_BadLine) = true)
    (t_BadLine : PySem.W.typeIn K (.ref f_BadLine) = some (.type "function"))
    (g_BadNumber : PySem.W.nsIn K mainGlobals "BadNumber" = some (some (.ref C_BadNumber)))
    (x_BadNumber : K.lookup C_BadNumber = some (excClassObj "BadNumber" q_BadNumber C_BadNumber N_BadNumber bs_BadNumber [.ref C_SparkError, .type "ValueError", .type "Exception", .type "BaseException", .type "object"] true sn_BadNumber sb_BadNumber ab_BadNumber co_BadNumber dd_BadNumber k0_BadNumber k1_BadNumber k2_BadNumber k3_BadNumber k5_BadNumber "ValueError.__new__"))
    (sa_BadNumber : PySem.W.findIn K (.ref C_BadNumber) "__setattr__" = some (some (.builtin "object.__setattr__")))
    (ga_BadNumber : PySem.W.findIn K (.ref C_BadNumber) "__getattribute__" = some (some (.builtin "BaseException.__getattribute__")))
    (gg_BadNumber : PySem.W.findIn K (.ref C_BadNumber) "__getattr__" = some none)
    (hc_BadNumber : PySem.W.findIn K (.ref C_BadNumber) "__class__" = some (some (.builtin "object.__class__")))
    (kc_BadNumber : PySem.W.keepIn K (.ref C_BadNumber) = true)
    (n_BadNumber_what : PySem.W.findIn K (.ref C_BadNumber) "what" = some none)
    (n_BadNumber_number : PySem.W.findIn K (.ref C_BadNumber) "number" = some none)
    (a_BadNumber : PySem.W.findIn K (.ref C_BadNumber) "__init__" = some (some (.ref f_BadNumber)))
    (l_BadNumber : K.lookup f_BadNumber = some ⟨oc_BadNumber, od_BadNumber, .func (PySem.W.fnOf "__init__" "BadNumber.__init__" (defArgs (inClass (top 4) 0)) (defBody (inClass (top 4) 0)) (defScope (inClass (top 4) 0)) .none kV_BadNumber dc_BadNumber pm_BadNumber an_BadNumber cd_BadNumber ct_BadNumber), sl_BadNumber⟩)
    (c_BadNumber : PySem.W.codeIn K cd_BadNumber "BadNumber.__init__" = true)
    (k_BadNumber : PySem.W.keepIn K (.ref f_BadNumber) = true)
    (t_BadNumber : PySem.W.typeIn K (.ref f_BadNumber) = some (.type "function"))
    (g_BadRow : PySem.W.nsIn K mainGlobals "BadRow" = some (some (.ref C_BadRow)))
    (x_BadRow : K.lookup C_BadRow = some (excClassObj "BadRow" q_BadRow C_BadRow N_BadRow bs_BadRow [.ref C_SparkError, .type "ValueError", .type "Exception", .type "BaseException", .type "object"] true sn_BadRow sb_BadRow ab_BadRow co_BadRow dd_BadRow k0_BadRow k1_BadRow k2_BadRow k3_BadRow k5_BadRow "ValueError.__new__"))
    (sa_BadRow : PySem.W.findIn K (.ref C_BadRow) "__setattr__" = some (some (.builtin "object.__setattr__")))
    (ga_BadRow : PySem.W.findIn K (.ref C_BadRow) "__getattribute__" = some (some (.builtin "BaseException.__getattribute__")))
    (gg_BadRow : PySem.W.findIn K (.ref C_BadRow) "__getattr__" = some none)
    (hc_BadRow : PySem.W.findIn K (.ref C_BadRow) "__class__" = some (some (.builtin "object.__class__")))
    (kc_BadRow : PySem.W.keepIn K (.ref C_BadRow) = true)
    (n_BadRow_row : PySem.W.findIn K (.ref C_BadRow) "row" = some none)
    (a_BadRow : PySem.W.findIn K (.ref C_BadRow) "__init__" = some (some (.ref f_BadRow)))
    (l_BadRow : K.lookup f_BadRow = some ⟨oc_BadRow, od_BadRow, .func (PySem.W.fnOf "__init__" "BadRow.__init__" (defArgs (inClass (top 5) 0)) (defBody (inClass (top 5) 0)) (defScope (inClass (top 5) 0)) .none kV_BadRow dc_BadRow pm_BadRow an_BadRow cd_BadRow ct_BadRow), sl_BadRow⟩)
    (c_BadRow : PySem.W.codeIn K cd_BadRow "BadRow.__init__" = true)
    (k_BadRow : PySem.W.keepIn K (.ref f_BadRow) = true)
    (t_BadRow : PySem.W.typeIn K (.ref f_BadRow) = some (.type "function"))
    (g_BadName : PySem.W.nsIn K mainGlobals "BadName" = some (some (.ref C_BadName)))
    (x_BadName : K.lookup C_BadName = some (excClassObj "BadName" q_BadName C_BadName N_BadName bs_BadName [.ref C_SparkError, .type "ValueError", .type "Exception", .type "BaseException", .type "object"] true sn_BadName sb_BadName ab_BadName co_BadName dd_BadName k0_BadName k1_BadName k2_BadName k3_BadName k5_BadName "ValueError.__new__"))
    (sa_BadName : PySem.W.findIn K (.ref C_BadName) "__setattr__" = some (some (.builtin "object.__setattr__")))
    (ga_BadName : PySem.W.findIn K (.ref C_BadName) "__getattribute__" = some (some (.builtin "BaseException.__getattribute__")))
    (gg_BadName : PySem.W.findIn K (.ref C_BadName) "__getattr__" = some none)
    (hc_BadName : PySem.W.findIn K (.ref C_BadName) "__class__" = some (some (.builtin "object.__class__")))
    (kc_BadName : PySem.W.keepIn K (.ref C_BadName) = true)
    (n_BadName_name : PySem.W.findIn K (.ref C_BadName) "name" = some none)
    (a_BadName : PySem.W.findIn K (.ref C_BadName) "__init__" = some (some (.ref f_BadName)))
    (l_BadName : K.lookup f_BadName = some ⟨oc_BadName, od_BadName, .func (PySem.W.fnOf "__init__" "BadName.__init__" (defArgs (inClass (top 6) 0)) (defBody (inClass (top 6) 0)) (defScope (inClass (top 6) 0)) .none kV_BadName dc_BadName pm_BadName an_BadName cd_BadName ct_BadName), sl_BadName⟩)
    (c_BadName : PySem.W.codeIn K cd_BadName "BadName.__init__" = true)
    (k_BadName : PySem.W.keepIn K (.ref f_BadName) = true)
    (t_BadName : PySem.W.typeIn K (.ref f_BadName) = some (.type "function"))
    (g_BadCell : PySem.W.nsIn K mainGlobals "BadCell" = some (some (.ref C_BadCell)))
    (x_BadCell : K.lookup C_BadCell = some (excClassObj "BadCell" q_BadCell C_BadCell N_BadCell bs_BadCell [.ref C_SparkError, .type "ValueError", .type "Exception", .type "BaseException", .type "object"] true sn_BadCell sb_BadCell ab_BadCell co_BadCell dd_BadCell k0_BadCell k1_BadCell k2_BadCell k3_BadCell k5_BadCell "ValueError.__new__"))
    (sa_BadCell : PySem.W.findIn K (.ref C_BadCell) "__setattr__" = some (some (.builtin "object.__setattr__")))
    (ga_BadCell : PySem.W.findIn K (.ref C_BadCell) "__getattribute__" = some (some (.builtin "BaseException.__getattribute__")))
    (gg_BadCell : PySem.W.findIn K (.ref C_BadCell) "__getattr__" = some none)
    (hc_BadCell : PySem.W.findIn K (.ref C_BadCell) "__class__" = some (some (.builtin "object.__class__")))
    (kc_BadCell : PySem.W.keepIn K (.ref C_BadCell) = true)
    (n_BadCell_cell : PySem.W.findIn K (.ref C_BadCell) "cell" = some none)
    (a_BadCell : PySem.W.findIn K (.ref C_BadCell) "__init__" = some (some (.ref f_BadCell)))
    (l_BadCell : K.lookup f_BadCell = some ⟨oc_BadCell, od_BadCell, .func (PySem.W.fnOf "__init__" "BadCell.__init__" (defArgs (inClass (top 7) 0)) (defBody (inClass (top 7) 0)) (defScope (inClass (top 7) 0)) .none kV_BadCell dc_BadCell pm_BadCell an_BadCell cd_BadCell ct_BadCell), sl_BadCell⟩)
    (c_BadCell : PySem.W.codeIn K cd_BadCell "BadCell.__init__" = true)
    (k_BadCell : PySem.W.keepIn K (.ref f_BadCell) = true)
    (t_BadCell : PySem.W.typeIn K (.ref f_BadCell) = some (.type "function"))
    (g_BadGate : PySem.W.nsIn K mainGlobals "BadGate" = some (some (.ref C_BadGate)))
    (x_BadGate : K.lookup C_BadGate = some (excClassObj "BadGate" q_BadGate C_BadGate N_BadGate bs_BadGate [.ref C_SparkError, .type "ValueError", .type "Exception", .type "BaseException", .type "object"] true sn_BadGate sb_BadGate ab_BadGate co_BadGate dd_BadGate k0_BadGate k1_BadGate k2_BadGate k3_BadGate k5_BadGate "ValueError.__new__"))
    (sa_BadGate : PySem.W.findIn K (.ref C_BadGate) "__setattr__" = some (some (.builtin "object.__setattr__")))
    (ga_BadGate : PySem.W.findIn K (.ref C_BadGate) "__getattribute__" = some (some (.builtin "BaseException.__getattribute__")))
    (gg_BadGate : PySem.W.findIn K (.ref C_BadGate) "__getattr__" = some none)
    (hc_BadGate : PySem.W.findIn K (.ref C_BadGate) "__class__" = some (some (.builtin "object.__class__")))
    (kc_BadGate : PySem.W.keepIn K (.ref C_BadGate) = true)
    (n_BadGate_index : PySem.W.findIn K (.ref C_BadGate) "index" = some none)
    (a_BadGate : PySem.W.findIn K (.ref C_BadGate) "__init__" = some (some (.ref f_BadGate)))
    (l_BadGate : K.lookup f_BadGate = some ⟨oc_BadGate, od_BadGate, .func (PySem.W.fnOf "__init__" "BadGate.__init__" (defArgs (inClass (top 8) 0)) (defBody (inClass (top 8) 0)) (defScope (inClass (top 8) 0)) .none kV_BadGate dc_BadGate pm_BadGate an_BadGate cd_BadGate ct_BadGate), sl_BadGate⟩)
    (c_BadGate : PySem.W.codeIn K cd_BadGate "BadGate.__init__" = true)
    (k_BadGate : PySem.W.keepIn K (.ref f_BadGate) = true)
    (t_BadGate : PySem.W.typeIn K (.ref f_BadGate) = some (.type "function"))
    (g_BadTile : PySem.W.nsIn K mainGlobals "BadTile" = some (some (.ref C_BadTile)))
    (x_BadTile : K.lookup C_BadTile = some (excClassObj "BadTile" q_BadTile C_BadTile N_BadTile bs_BadTile [.ref C_SparkError, .type "ValueError", .type "Exception", .type "BaseException", .type "object"] true sn_BadTile sb_BadTile ab_BadTile co_BadTile dd_BadTile k0_BadTile k1_BadTile k2_BadTile k3_BadTile k5_BadTile "ValueError.__new__"))
    (sa_BadTile : PySem.W.findIn K (.ref C_BadTile) "__setattr__" = some (some (.builtin "object.__setattr__")))
    (ga_BadTile : PySem.W.findIn K (.ref C_BadTile) "__getattribute__" = some (some (.builtin "BaseException.__getattribute__")))
    (gg_BadTile : PySem.W.findIn K (.ref C_BadTile) "__getattr__" = some none)
    (hc_BadTile : PySem.W.findIn K (.ref C_BadTile) "__class__" = some (some (.builtin "object.__class__")))
    (kc_BadTile : PySem.W.keepIn K (.ref C_BadTile) = true)
    (n_BadTile_stage : PySem.W.findIn K (.ref C_BadTile) "stage" = some none)
    (n_BadTile_tile : PySem.W.findIn K (.ref C_BadTile) "tile" = some none)
    (a_BadTile : PySem.W.findIn K (.ref C_BadTile) "__init__" = some (some (.ref f_BadTile)))
    (l_BadTile : K.lookup f_BadTile = some ⟨oc_BadTile, od_BadTile, .func (PySem.W.fnOf "__init__" "BadTile.__init__" (defArgs (inClass (top 9) 0)) (defBody (inClass (top 9) 0)) (defScope (inClass (top 9) 0)) .none kV_BadTile dc_BadTile pm_BadTile an_BadTile cd_BadTile ct_BadTile), sl_BadTile⟩)
    (c_BadTile : PySem.W.codeIn K cd_BadTile "BadTile.__init__" = true)
    (k_BadTile : PySem.W.keepIn K (.ref f_BadTile) = true)
    (t_BadTile : PySem.W.typeIn K (.ref f_BadTile) = some (.type "function"))
    (g_NoName : PySem.W.nsIn K mainGlobals "NoName" = some (some (.ref C_NoName)))
    (x_NoName : K.lookup C_NoName = some (excClassObj "NoName" q_NoName C_NoName N_NoName bs_NoName [.ref C_SparkError, .type "ValueError", .type "Exception", .type "BaseException", .type "object"] true sn_NoName sb_NoName ab_NoName co_NoName dd_NoName k0_NoName k1_NoName k2_NoName k3_NoName k5_NoName "ValueError.__new__"))
    (sa_NoName : PySem.W.findIn K (.ref C_NoName) "__setattr__" = some (some (.builtin "object.__setattr__")))
    (ga_NoName : PySem.W.findIn K (.ref C_NoName) "__getattribute__" = some (some (.builtin "BaseException.__getattribute__")))
    (gg_NoName : PySem.W.findIn K (.ref C_NoName) "__getattr__" = some none)
    (hc_NoName : PySem.W.findIn K (.ref C_NoName) "__class__" = some (some (.builtin "object.__class__")))
    (kc_NoName : PySem.W.keepIn K (.ref C_NoName) = true)
    (n_NoName_name : PySem.W.findIn K (.ref C_NoName) "name" = some none)
    (a_NoName : PySem.W.findIn K (.ref C_NoName) "__init__" = some (some (.ref f_NoName)))
    (l_NoName : K.lookup f_NoName = some ⟨oc_NoName, od_NoName, .func (PySem.W.fnOf "__init__" "NoName.__init__" (defArgs (inClass (top 10) 0)) (defBody (inClass (top 10) 0)) (defScope (inClass (top 10) 0)) .none kV_NoName dc_NoName pm_NoName an_NoName cd_NoName ct_NoName), sl_NoName⟩)
    (c_NoName : PySem.W.codeIn K cd_NoName "NoName.__init__" = true)
    (k_NoName : PySem.W.keepIn K (.ref f_NoName) = true)
    (t_NoName : PySem.W.typeIn K (.ref f_NoName) = some (.type "function"))
    (g_TakenName : PySem.W.nsIn K mainGlobals "TakenName" = some (some (.ref C_TakenName)))
    (x_TakenName : K.lookup C_TakenName = some (excClassObj "TakenName" q_TakenName C_TakenName N_TakenName bs_TakenName [.ref C_SparkError, .type "ValueError", .type "Exception", .type "BaseException", .type "object"] true sn_TakenName sb_TakenName ab_TakenName co_TakenName dd_TakenName k0_TakenName k1_TakenName k2_TakenName k3_TakenName k5_TakenName "ValueError.__new__"))
    (sa_TakenName : PySem.W.findIn K (.ref C_TakenName) "__setattr__" = some (some (.builtin "object.__setattr__")))
    (ga_TakenName : PySem.W.findIn K (.ref C_TakenName) "__getattribute__" = some (some (.builtin "BaseException.__getattribute__")))
    (gg_TakenName : PySem.W.findIn K (.ref C_TakenName) "__getattr__" = some none)
    (hc_TakenName : PySem.W.findIn K (.ref C_TakenName) "__class__" = some (some (.builtin "object.__class__")))
    (kc_TakenName : PySem.W.keepIn K (.ref C_TakenName) = true)
    (n_TakenName_name : PySem.W.findIn K (.ref C_TakenName) "name" = some none)
    (a_TakenName : PySem.W.findIn K (.ref C_TakenName) "__init__" = some (some (.ref f_TakenName)))
    (l_TakenName : K.lookup f_TakenName = some ⟨oc_TakenName, od_TakenName, .func (PySem.W.fnOf "__init__" "TakenName.__init__" (defArgs (inClass (top 11) 0)) (defBody (inClass (top 11) 0)) (defScope (inClass (top 11) 0)) .none kV_TakenName dc_TakenName pm_TakenName an_TakenName cd_TakenName ct_TakenName), sl_TakenName⟩)
    (c_TakenName : PySem.W.codeIn K cd_TakenName "TakenName.__init__" = true)
    (k_TakenName : PySem.W.keepIn K (.ref f_TakenName) = true)
    (t_TakenName : PySem.W.typeIn K (.ref f_TakenName) = some (.type "function"))
    (g_Unlike : PySem.W.nsIn K mainGlobals "Unlike" = some (some (.ref C_Unlike)))
    (x_Unlike : K.lookup C_Unlike = some (excClassObj "Unlike" q_Unlike C_Unlike N_Unlike bs_Unlike [.ref C_SparkError, .type "ValueError", .type "Exception", .type "BaseException", .type "object"] true sn_Unlike sb_Unlike ab_Unlike co_Unlike dd_Unlike k0_Unlike k1_Unlike k2_Unlike k3_Unlike k5_Unlike "ValueError.__new__"))
    (sa_Unlike : PySem.W.findIn K (.ref C_Unlike) "__setattr__" = some (some (.builtin "object.__setattr__")))
    (ga_Unlike : PySem.W.findIn K (.ref C_Unlike) "__getattribute__" = some (some (.builtin "BaseException.__getattribute__")))
    (gg_Unlike : PySem.W.findIn K (.ref C_Unlike) "__getattr__" = some none)
    (hc_Unlike : PySem.W.findIn K (.ref C_Unlike) "__class__" = some (some (.builtin "object.__class__")))
    (kc_Unlike : PySem.W.keepIn K (.ref C_Unlike) = true)
    (n_Unlike_what : PySem.W.findIn K (.ref C_Unlike) "what" = some none)
    (a_Unlike : PySem.W.findIn K (.ref C_Unlike) "__init__" = some (some (.ref f_Unlike)))
    (l_Unlike : K.lookup f_Unlike = some ⟨oc_Unlike, od_Unlike, .func (PySem.W.fnOf "__init__" "Unlike.__init__" (defArgs (inClass (top 12) 0)) (defBody (inClass (top 12) 0)) (defScope (inClass (top 12) 0)) .none kV_Unlike dc_Unlike pm_Unlike an_Unlike cd_Unlike ct_Unlike), sl_Unlike⟩)
    (c_Unlike : PySem.W.codeIn K cd_Unlike "Unlike.__init__" = true)
    (k_Unlike : PySem.W.keepIn K (.ref f_Unlike) = true)
    (t_Unlike : PySem.W.typeIn K (.ref f_Unlike) = some (.type "function"))
    (g_NotKept : PySem.W.nsIn K mainGlobals "NotKept" = some (some (.ref C_NotKept)))
    (x_NotKept : K.lookup C_NotKept = some (excClassObj "NotKept" q_NotKept C_NotKept N_NotKept bs_NotKept [.ref C_SparkError, .type "ValueError", .type "Exception", .type "BaseException", .type "object"] true sn_NotKept sb_NotKept ab_NotKept co_NotKept dd_NotKept k0_NotKept k1_NotKept k2_NotKept k3_NotKept k5_NotKept "ValueError.__new__"))
    (sa_NotKept : PySem.W.findIn K (.ref C_NotKept) "__setattr__" = some (some (.builtin "object.__setattr__")))
    (ga_NotKept : PySem.W.findIn K (.ref C_NotKept) "__getattribute__" = some (some (.builtin "BaseException.__getattribute__")))
    (gg_NotKept : PySem.W.findIn K (.ref C_NotKept) "__getattr__" = some none)
    (hc_NotKept : PySem.W.findIn K (.ref C_NotKept) "__class__" = some (some (.builtin "object.__class__")))
    (kc_NotKept : PySem.W.keepIn K (.ref C_NotKept) = true)
    (n_NotKept_promise : PySem.W.findIn K (.ref C_NotKept) "promise" = some none)
    (n_NotKept_witness : PySem.W.findIn K (.ref C_NotKept) "witness" = some none)
    (a_NotKept : PySem.W.findIn K (.ref C_NotKept) "__init__" = some (some (.ref f_NotKept)))
    (l_NotKept : K.lookup f_NotKept = some ⟨oc_NotKept, od_NotKept, .func (PySem.W.fnOf "__init__" "NotKept.__init__" (defArgs (inClass (top 13) 0)) (defBody (inClass (top 13) 0)) (defScope (inClass (top 13) 0)) .none kV_NotKept dc_NotKept pm_NotKept an_NotKept cd_NotKept ct_NotKept), sl_NotKept⟩)
    (c_NotKept : PySem.W.codeIn K cd_NotKept "NotKept.__init__" = true)
    (k_NotKept : PySem.W.keepIn K (.ref f_NotKept) = true)
    (t_NotKept : PySem.W.typeIn K (.ref f_NotKept) = some (.type "function"))
    (g_NothingToUndo : PySem.W.nsIn K mainGlobals "NothingToUndo" = some (some (.ref C_NothingToUndo)))
    (x_NothingToUndo : K.lookup C_NothingToUndo = some (excClassObj "NothingToUndo" q_NothingToUndo C_NothingToUndo N_NothingToUndo bs_NothingToUndo [.ref C_SparkError, .type "ValueError", .type "Exception", .type "BaseException", .type "object"] true sn_NothingToUndo sb_NothingToUndo ab_NothingToUndo co_NothingToUndo dd_NothingToUndo k0_NothingToUndo k1_NothingToUndo k2_NothingToUndo k3_NothingToUndo k5_NothingToUndo "ValueError.__new__"))
    (sa_NothingToUndo : PySem.W.findIn K (.ref C_NothingToUndo) "__setattr__" = some (some (.builtin "object.__setattr__")))
    (ga_NothingToUndo : PySem.W.findIn K (.ref C_NothingToUndo) "__getattribute__" = some (some (.builtin "BaseException.__getattribute__")))
    (gg_NothingToUndo : PySem.W.findIn K (.ref C_NothingToUndo) "__getattr__" = some none)
    (hc_NothingToUndo : PySem.W.findIn K (.ref C_NothingToUndo) "__class__" = some (some (.builtin "object.__class__")))
    (kc_NothingToUndo : PySem.W.keepIn K (.ref C_NothingToUndo) = true)
    (a_NothingToUndo : PySem.W.findIn K (.ref C_NothingToUndo) "__init__" = some (some (.ref f_NothingToUndo)))
    (l_NothingToUndo : K.lookup f_NothingToUndo = some ⟨oc_NothingToUndo, od_NothingToUndo, .func (PySem.W.fnOf "__init__" "NothingToUndo.__init__" (defArgs (inClass (top 14) 0)) (defBody (inClass (top 14) 0)) (defScope (inClass (top 14) 0)) .none kV_NothingToUndo dc_NothingToUndo pm_NothingToUndo an_NothingToUndo cd_NothingToUndo ct_NothingToUndo), sl_NothingToUndo⟩)
    (c_NothingToUndo : PySem.W.codeIn K cd_NothingToUndo "NothingToUndo.__init__" = true)
    (k_NothingToUndo : PySem.W.keepIn K (.ref f_NothingToUndo) = true)
    (t_NothingToUndo : PySem.W.typeIn K (.ref f_NothingToUndo) = some (.type "function"))
    (g_NothingToRedo : PySem.W.nsIn K mainGlobals "NothingToRedo" = some (some (.ref C_NothingToRedo)))
    (x_NothingToRedo : K.lookup C_NothingToRedo = some (excClassObj "NothingToRedo" q_NothingToRedo C_NothingToRedo N_NothingToRedo bs_NothingToRedo [.ref C_SparkError, .type "ValueError", .type "Exception", .type "BaseException", .type "object"] true sn_NothingToRedo sb_NothingToRedo ab_NothingToRedo co_NothingToRedo dd_NothingToRedo k0_NothingToRedo k1_NothingToRedo k2_NothingToRedo k3_NothingToRedo k5_NothingToRedo "ValueError.__new__"))
    (sa_NothingToRedo : PySem.W.findIn K (.ref C_NothingToRedo) "__setattr__" = some (some (.builtin "object.__setattr__")))
    (ga_NothingToRedo : PySem.W.findIn K (.ref C_NothingToRedo) "__getattribute__" = some (some (.builtin "BaseException.__getattribute__")))
    (gg_NothingToRedo : PySem.W.findIn K (.ref C_NothingToRedo) "__getattr__" = some none)
    (hc_NothingToRedo : PySem.W.findIn K (.ref C_NothingToRedo) "__class__" = some (some (.builtin "object.__class__")))
    (kc_NothingToRedo : PySem.W.keepIn K (.ref C_NothingToRedo) = true)
    (a_NothingToRedo : PySem.W.findIn K (.ref C_NothingToRedo) "__init__" = some (some (.ref f_NothingToRedo)))
    (l_NothingToRedo : K.lookup f_NothingToRedo = some ⟨oc_NothingToRedo, od_NothingToRedo, .func (PySem.W.fnOf "__init__" "NothingToRedo.__init__" (defArgs (inClass (top 15) 0)) (defBody (inClass (top 15) 0)) (defScope (inClass (top 15) 0)) .none kV_NothingToRedo dc_NothingToRedo pm_NothingToRedo an_NothingToRedo cd_NothingToRedo ct_NothingToRedo), sl_NothingToRedo⟩)
    (c_NothingToRedo : PySem.W.codeIn K cd_NothingToRedo "NothingToRedo.__init__" = true)
    (k_NothingToRedo : PySem.W.keepIn K (.ref f_NothingToRedo) = true)
    (t_NothingToRedo : PySem.W.typeIn K (.ref f_NothingToRedo) = some (.type "function"))
    (a__law_pen : PySem.W.nsIn K mainGlobals "_law_pen" = some (some (.ref f__law_pen)))
    (l__law_pen : K.lookup f__law_pen = some ⟨oc__law_pen, od__law_pen, .func (PySem.W.fnOf "_law_pen" "_law_pen" (defArgs (top 17)) (defBody (top 17)) (defScope (top 17)) .none kV__law_pen dc__law_pen pm__law_pen an__law_pen cd__law_pen ct__law_pen), sl__law_pen⟩)
    (c__law_pen : PySem.W.codeIn K cd__law_pen "_law_pen" = true)
    (k__law_pen : PySem.W.keepIn K (.ref f__law_pen) = true)
    (a__law_draw : PySem.W.nsIn K mainGlobals "_law_draw" = some (some (.ref f__law_draw)))
    (l__law_draw : K.lookup f__law_draw = some ⟨oc__law_draw, od__law_draw, .func (PySem.W.fnOf "_law_draw" "_law_draw" (defArgs (top 18)) (defBody (top 18)) (defScope (top 18)) .none kV__law_draw dc__law_draw pm__law_draw an__law_draw cd__law_draw ct__law_draw), sl__law_draw⟩)
    (c__law_draw : PySem.W.codeIn K cd__law_draw "_law_draw" = true)
    (k__law_draw : PySem.W.keepIn K (.ref f__law_draw) = true)
    (a__law_pick : PySem.W.nsIn K mainGlobals "_law_pick" = some (some (.ref f__law_pick)))
    (l__law_pick : K.lookup f__law_pick = some ⟨oc__law_pick, od__law_pick, .func (PySem.W.fnOf "_law_pick" "_law_pick" (defArgs (top 19)) (defBody (top 19)) (defScope (top 19)) .none kV__law_pick dc__law_pick pm__law_pick an__law_pick cd__law_pick ct__law_pick), sl__law_pick⟩)
    (c__law_pick : PySem.W.codeIn K cd__law_pick "_law_pick" = true)
    (k__law_pick : PySem.W.keepIn K (.ref f__law_pick) = true)
    (a__law_kinds : PySem.W.nsIn K mainGlobals "_law_kinds" = some (some (.ref f__law_kinds)))
    (l__law_kinds : K.lookup f__law_kinds = some ⟨oc__law_kinds, od__law_kinds, .func (PySem.W.fnOf "_law_kinds" "_law_kinds" (defArgs (top 20)) (defBody (top 20)) (defScope (top 20)) .none kV__law_kinds dc__law_kinds pm__law_kinds an__law_kinds cd__law_kinds ct__law_kinds), sl__law_kinds⟩)
    (c__law_kinds : PySem.W.codeIn K cd__law_kinds "_law_kinds" = true)
    (k__law_kinds : PySem.W.keepIn K (.ref f__law_kinds) = true)
    (a_law : PySem.W.nsIn K mainGlobals "law" = some (some (.ref f_law)))
    (l_law : K.lookup f_law = some ⟨oc_law, od_law, .func (PySem.W.fnOf "law" "law" (defArgs (top 21)) (defBody (top 21)) (defScope (top 21)) .none kV_law dc_law pm_law an_law cd_law ct_law), sl_law⟩)
    (c_law : PySem.W.codeIn K cd_law "law" = true)
    (k_law : PySem.W.keepIn K (.ref f_law) = true)
    (z_int : PySem.W.nsIn K mainGlobals "int" = some none)
    (z_list : PySem.W.nsIn K mainGlobals "list" = some none)
    (z_len : PySem.W.nsIn K mainGlobals "len" = some none)
    (z_isinstance : PySem.W.nsIn K mainGlobals "isinstance" = some none)
    (z_range : PySem.W.nsIn K mainGlobals "range" = some none)
    (z_ValueError : PySem.W.nsIn K mainGlobals "ValueError" = some none)
    : ∃ fd : FuncData, (∀ (s : Shared) (v : Value), BindsTo s fd ⟨[v], []⟩ [("_law_script", v)]) ∧ ∀ base : Heap, K.In base → base.Ns mainGlobals mg → FnOk l.prog w K mg base CX0 3 fa fd ["_law_script"] (spLaw K) := by
  have e := hfa.symm.trans (PySem.W.mg_of X G a_law)
  cases e
  have E_SparkError : Err K mg veT "SparkError" C_SparkError := ⟨PySem.W.mg_of X G g_SparkError, ⟨_, _, _, _, _, _, _, _, _, _, _, _, _, x_SparkError⟩, sa_SparkError, ga_SparkError, gg_SparkError, hc_SparkError, kc_SparkError, hn, ht⟩
  have E_BadText : Err K mg (.ref C_SparkError :: veT) "BadText" C_BadText := ⟨PySem.W.mg_of X G g_BadText, ⟨_, _, _, _, _, _, _, _, _, _, _, _, _, x_BadText⟩, sa_BadText, ga_BadText, gg_BadText, hc_BadText, kc_BadText, hn, ht⟩
  have F_BadText := fun_mk (st := inClass (top 2) 0) l_BadText c_BadText k_BadText
  have b_BadText := F_BadText.binds (ps := ["self", "column"]) fun _ _ _ _ _ _ us hl => match us, hl with | [_, _], _ => rfl
  have E_BadLine : Err K mg (.ref C_SparkError :: veT) "BadLine" C_BadLine := ⟨PySem.W.mg_of X G g_BadLine, ⟨_, _, _, _, _, _, _, _, _, _, _, _, _, x_BadLine⟩, sa_BadLine, ga_BadLine, gg_BadLine, hc_BadLine, kc_BadLine, hn, ht⟩
  have F_BadLine := fun_mk (st := inClass (top 3) 0) l_BadLine c_BadLine k_BadLine
  have b_BadLine := F_BadLine.binds (ps := ["self", "line", "column"]) fun _ _ _ _ _ _ us hl => match us, hl with | [_, _, _], _ => rfl
  have E_BadNumber : Err K mg (.ref C_SparkError :: veT) "BadNumber" C_BadNumber := ⟨PySem.W.mg_of X G g_BadNumber, ⟨_, _, _, _, _, _, _, _, _, _, _, _, _, x_BadNumber⟩, sa_BadNumber, ga_BadNumber, gg_BadNumber, hc_BadNumber, kc_BadNumber, hn, ht⟩
  have F_BadNumber := fun_mk (st := inClass (top 4) 0) l_BadNumber c_BadNumber k_BadNumber
  have b_BadNumber := F_BadNumber.binds (ps := ["self", "what", "number"]) fun _ _ _ _ _ _ us hl => match us, hl with | [_, _, _], _ => rfl
  have E_BadRow : Err K mg (.ref C_SparkError :: veT) "BadRow" C_BadRow := ⟨PySem.W.mg_of X G g_BadRow, ⟨_, _, _, _, _, _, _, _, _, _, _, _, _, x_BadRow⟩, sa_BadRow, ga_BadRow, gg_BadRow, hc_BadRow, kc_BadRow, hn, ht⟩
  have F_BadRow := fun_mk (st := inClass (top 5) 0) l_BadRow c_BadRow k_BadRow
  have b_BadRow := F_BadRow.binds (ps := ["self", "row"]) fun _ _ _ _ _ _ us hl => match us, hl with | [_, _], _ => rfl
  have E_BadName : Err K mg (.ref C_SparkError :: veT) "BadName" C_BadName := ⟨PySem.W.mg_of X G g_BadName, ⟨_, _, _, _, _, _, _, _, _, _, _, _, _, x_BadName⟩, sa_BadName, ga_BadName, gg_BadName, hc_BadName, kc_BadName, hn, ht⟩
  have F_BadName := fun_mk (st := inClass (top 6) 0) l_BadName c_BadName k_BadName
  have b_BadName := F_BadName.binds (ps := ["self", "name"]) fun _ _ _ _ _ _ us hl => match us, hl with | [_, _], _ => rfl
  have E_BadCell : Err K mg (.ref C_SparkError :: veT) "BadCell" C_BadCell := ⟨PySem.W.mg_of X G g_BadCell, ⟨_, _, _, _, _, _, _, _, _, _, _, _, _, x_BadCell⟩, sa_BadCell, ga_BadCell, gg_BadCell, hc_BadCell, kc_BadCell, hn, ht⟩
  have F_BadCell := fun_mk (st := inClass (top 7) 0) l_BadCell c_BadCell k_BadCell
  have b_BadCell := F_BadCell.binds (ps := ["self", "cell"]) fun _ _ _ _ _ _ us hl => match us, hl with | [_, _], _ => rfl
  have E_BadGate : Err K mg (.ref C_SparkError :: veT) "BadGate" C_BadGate := ⟨PySem.W.mg_of X G g_BadGate, ⟨_, _, _, _, _, _, _, _, _, _, _, _, _, x_BadGate⟩, sa_BadGate, ga_BadGate, gg_BadGate, hc_BadGate, kc_BadGate, hn, ht⟩
  have F_BadGate := fun_mk (st := inClass (top 8) 0) l_BadGate c_BadGate k_BadGate
  have b_BadGate := F_BadGate.binds (ps := ["self", "index"]) fun _ _ _ _ _ _ us hl => match us, hl with | [_, _], _ => rfl
  have E_BadTile : Err K mg (.ref C_SparkError :: veT) "BadTile" C_BadTile := ⟨PySem.W.mg_of X G g_BadTile, ⟨_, _, _, _, _, _, _, _, _, _, _, _, _, x_BadTile⟩, sa_BadTile, ga_BadTile, gg_BadTile, hc_BadTile, kc_BadTile, hn, ht⟩
  have F_BadTile := fun_mk (st := inClass (top 9) 0) l_BadTile c_BadTile k_BadTile
  have b_BadTile := F_BadTile.binds (ps := ["self", "stage", "tile"]) fun _ _ _ _ _ _ us hl => match us, hl with | [_, _, _], _ => rfl
  have E_NoName : Err K mg (.ref C_SparkError :: veT) "NoName" C_NoName := ⟨PySem.W.mg_of X G g_NoName, ⟨_, _, _, _, _, _, _, _, _, _, _, _, _, x_NoName⟩, sa_NoName, ga_NoName, gg_NoName, hc_NoName, kc_NoName, hn, ht⟩
  have F_NoName := fun_mk (st := inClass (top 10) 0) l_NoName c_NoName k_NoName
  have b_NoName := F_NoName.binds (ps := ["self", "name"]) fun _ _ _ _ _ _ us hl => match us, hl with | [_, _], _ => rfl
  have E_TakenName : Err K mg (.ref C_SparkError :: veT) "TakenName" C_TakenName := ⟨PySem.W.mg_of X G g_TakenName, ⟨_, _, _, _, _, _, _, _, _, _, _, _, _, x_TakenName⟩, sa_TakenName, ga_TakenName, gg_TakenName, hc_TakenName, kc_TakenName, hn, ht⟩
  have F_TakenName := fun_mk (st := inClass (top 11) 0) l_TakenName c_TakenName k_TakenName
  have b_TakenName := F_TakenName.binds (ps := ["self", "name"]) fun _ _ _ _ _ _ us hl => match us, hl with | [_, _], _ => rfl
  have E_Unlike : Err K mg (.ref C_SparkError :: veT) "Unlike" C_Unlike := ⟨PySem.W.mg_of X G g_Unlike, ⟨_, _, _, _, _, _, _, _, _, _, _, _, _, x_Unlike⟩, sa_Unlike, ga_Unlike, gg_Unlike, hc_Unlike, kc_Unlike, hn, ht⟩
  have F_Unlike := fun_mk (st := inClass (top 12) 0) l_Unlike c_Unlike k_Unlike
  have b_Unlike := F_Unlike.binds (ps := ["self", "what"]) fun _ _ _ _ _ _ us hl => match us, hl with | [_, _], _ => rfl
  have E_NotKept : Err K mg (.ref C_SparkError :: veT) "NotKept" C_NotKept := ⟨PySem.W.mg_of X G g_NotKept, ⟨_, _, _, _, _, _, _, _, _, _, _, _, _, x_NotKept⟩, sa_NotKept, ga_NotKept, gg_NotKept, hc_NotKept, kc_NotKept, hn, ht⟩
  have F_NotKept := fun_mk (st := inClass (top 13) 0) l_NotKept c_NotKept k_NotKept
  have b_NotKept := F_NotKept.binds (ps := ["self", "promise", "witness"]) fun _ _ _ _ _ _ us hl => match us, hl with | [_, _, _], _ => rfl
  have E_NothingToUndo : Err K mg (.ref C_SparkError :: veT) "NothingToUndo" C_NothingToUndo := ⟨PySem.W.mg_of X G g_NothingToUndo, ⟨_, _, _, _, _, _, _, _, _, _, _, _, _, x_NothingToUndo⟩, sa_NothingToUndo, ga_NothingToUndo, gg_NothingToUndo, hc_NothingToUndo, kc_NothingToUndo, hn, ht⟩
  have F_NothingToUndo := fun_mk (st := inClass (top 14) 0) l_NothingToUndo c_NothingToUndo k_NothingToUndo
  have b_NothingToUndo := F_NothingToUndo.binds (ps := ["self"]) fun _ _ _ _ _ _ us hl => match us, hl with | [_], _ => rfl
  have E_NothingToRedo : Err K mg (.ref C_SparkError :: veT) "NothingToRedo" C_NothingToRedo := ⟨PySem.W.mg_of X G g_NothingToRedo, ⟨_, _, _, _, _, _, _, _, _, _, _, _, _, x_NothingToRedo⟩, sa_NothingToRedo, ga_NothingToRedo, gg_NothingToRedo, hc_NothingToRedo, kc_NothingToRedo, hn, ht⟩
  have F_NothingToRedo := fun_mk (st := inClass (top 15) 0) l_NothingToRedo c_NothingToRedo k_NothingToRedo
  have b_NothingToRedo := F_NothingToRedo.binds (ps := ["self"]) fun _ _ _ _ _ _ us hl => match us, hl with | [_], _ => rfl
  have F__law_pen := fun_mk (st := top 17) l__law_pen c__law_pen k__law_pen
  have b__law_pen := F__law_pen.binds (ps := ["_law_script"]) fun _ _ _ _ _ _ us hl => match us, hl with | [_], _ => rfl
  have F__law_draw := fun_mk (st := top 18) l__law_draw c__law_draw k__law_draw
  have b__law_draw := F__law_draw.binds (ps := ["_law_pen_here", "_law_many"]) fun _ _ _ _ _ _ us hl => match us, hl with | [_, _], _ => rfl
  have F__law_pick := fun_mk (st := top 19) l__law_pick c__law_pick k__law_pick
  have b__law_pick := F__law_pick.binds (ps := ["_law_pen_here", "_law_some"]) fun _ _ _ _ _ _ us hl => match us, hl with | [_, _], _ => rfl
  have F__law_kinds := fun_mk (st := top 20) l__law_kinds c__law_kinds k__law_kinds
  have b__law_kinds := F__law_kinds.binds (ps := ["_law_error"]) fun _ _ _ _ _ _ us hl => match us, hl with | [_], _ => rfl
  have F_law := fun_mk (st := top 21) l_law c_law k_law
  have b_law := F_law.binds (ps := ["_law_script"]) fun _ _ _ _ _ _ us hl => match us, hl with | [_], _ => rfl
  have T : Builtins mg := ⟨PySem.W.mg_none_of X G z_int, PySem.W.mg_none_of X G z_list, PySem.W.mg_none_of X G z_len, PySem.W.mg_none_of X G z_isinstance, PySem.W.mg_none_of X G z_range, PySem.W.mg_none_of X G z_ValueError⟩
  refine ⟨PySem.W.fnOf "law" "law" (defArgs (top 21)) (defBody (top 21)) (defScope (top 21)) .none kV_law dc_law pm_law an_law cd_law ct_law, fun s v => .of_eq rfl, fun base _ _ => ?_⟩
  have TT : Cls K mg l.prog w base C_SparkError C_BadText f_BadText _ C_BadLine f_BadLine _ C_BadNumber f_BadNumber _ C_BadRow f_BadRow _ C_BadName f_BadName _ C_BadCell f_BadCell _ C_BadGate f_BadGate _ C_BadTile f_BadTile _ C_NoName f_NoName _ C_TakenName f_TakenName _ C_Unlike f_Unlike _ C_NotKept f_NotKept _ C_NothingToUndo f_NothingToUndo _ C_NothingToRedo f_NothingToRedo _ := ⟨E_SparkError, xx, ⟨E_BadText, a_BadText, t_BadText, b_BadText, ok_BadText F_BadText (E_BadText.oex hasB refsS) n_BadText_column⟩,
    ⟨E_BadLine, a_BadLine, t_BadLine, b_BadLine, ok_BadLine F_BadLine (E_BadLine.oex hasB refsS) n_BadLine_line n_BadLine_column⟩,
    ⟨E_BadNumber, a_BadNumber, t_BadNumber, b_BadNumber, ok_BadNumber F_BadNumber (E_BadNumber.oex hasB refsS) n_BadNumber_what n_BadNumber_number⟩,
    ⟨E_BadRow, a_BadRow, t_BadRow, b_BadRow, ok_BadRow F_BadRow (E_BadRow.oex hasB refsS) n_BadRow_row⟩,
    ⟨E_BadName, a_BadName, t_BadName, b_BadName, ok_BadName F_BadName (E_BadName.oex hasB refsS) n_BadName_name⟩,
    ⟨E_BadCell, a_BadCell, t_BadCell, b_BadCell, ok_BadCell F_BadCell (E_BadCell.oex hasB refsS) n_BadCell_cell⟩,
    ⟨E_BadGate, a_BadGate, t_BadGate, b_BadGate, ok_BadGate F_BadGate (E_BadGate.oex hasB refsS) n_BadGate_index⟩,
    ⟨E_BadTile, a_BadTile, t_BadTile, b_BadTile, ok_BadTile F_BadTile (E_BadTile.oex hasB refsS) n_BadTile_stage n_BadTile_tile⟩,
    ⟨E_NoName, a_NoName, t_NoName, b_NoName, ok_NoName F_NoName (E_NoName.oex hasB refsS) n_NoName_name⟩,
    ⟨E_TakenName, a_TakenName, t_TakenName, b_TakenName, ok_TakenName F_TakenName (E_TakenName.oex hasB refsS) n_TakenName_name⟩,
    ⟨E_Unlike, a_Unlike, t_Unlike, b_Unlike, ok_Unlike F_Unlike (E_Unlike.oex hasB refsS) n_Unlike_what⟩,
    ⟨E_NotKept, a_NotKept, t_NotKept, b_NotKept, ok_NotKept F_NotKept (E_NotKept.oex hasB refsS) n_NotKept_promise n_NotKept_witness⟩,
    ⟨E_NothingToUndo, a_NothingToUndo, t_NothingToUndo, b_NothingToUndo, ok_NothingToUndo F_NothingToUndo⟩,
    ⟨E_NothingToRedo, a_NothingToRedo, t_NothingToRedo, b_NothingToRedo, ok_NothingToRedo F_NothingToRedo⟩⟩
  have Hpen : Fn K mg l.prog w base CX0 "_law_pen" 1 f__law_pen _ ["_law_script"] (spPen K) := ⟨PySem.W.mg_of X G a__law_pen, k__law_pen, b__law_pen, ok_pen F__law_pen T.tb⟩
  have Hpick : Fn K mg l.prog w base CX0 "_law_pick" 2 f__law_pick _ ["_law_pen_here", "_law_some"] (spPick K) := ⟨PySem.W.mg_of X G a__law_pick, k__law_pick, b__law_pick, ok_pick F__law_pick T.tb (PySem.W.mg_of X G a__law_draw) (ok_draw F__law_draw T.tb) k__law_draw b__law_draw⟩
  have Hkinds : Fn K mg l.prog w base CX0 "_law_kinds" 1 f__law_kinds _ ["_law_error"] (spKinds K mg C_SparkError) := ⟨PySem.W.mg_of X G a__law_kinds, k__law_kinds, b__law_kinds, ok_kinds F__law_kinds T TT⟩
  exact ok_law F_law T TT n_BadText_column n_BadLine_line n_BadLine_column n_BadNumber_what n_BadNumber_number n_BadRow_row n_BadName_name n_BadCell_cell n_BadGate_index n_BadTile_stage n_BadTile_tile n_NoName_name n_TakenName_name n_Unlike_what n_NotKept_promise n_NotKept_witness Hpen Hpick Hkinds
theorem walk {l : PySem.W.OpenLaw} {q : Program} {loose : List Str} {XP : (Str → Option Value) → Heap → Prop} {YP : World → Heap → Prop} {d : DefRec} {K : Params → PySem.W.Frag} (hn : l.most = some 63) (hdf : d.params.defaults = [])
    (hY : ∀ (w : World) (h : Heap), YP w h → (K w.params).In h)
    (F : ∀ (w : World) (mg : Str → Option Value) (fa : Addr) (h : Heap), (K w.params).In h → h.Ns mainGlobals mg → mg d.name = some (.ref fa) →
      ∃ fd : FuncData, (∀ (s : Shared) (u : Value), BindsTo s fd ⟨[u], []⟩ [("_law_script", u)]) ∧ ∀ base : Heap, (K w.params).In base → base.Ns mainGlobals mg → FnOk l.prog w (K w.params) mg base CX0 3 fa fd ["_law_script"] (spLaw (K w.params))) :
    PySem.W.WalkO q loose XP YP l.row.toRowW d [] (fun f vs => PySem.call f vs) :=
  L2.walk_of (n := 63) (k := 3) (x := "_law_script") (CX := fun _ => CX0) (sp := fun w => spLaw (K w.params)) hn (by decide) hdf ⟨rfl, by decide, by decide⟩ hY F (fun _ _ a ns hl _ hS => ⟨a, ns, rfl, hS, hl, fun _ => rfl⟩) fun _ _ _ _ _ z => z
end Sb
open PySem PySem.W PyProof.Rows
set_option maxRecDepth 100000 in
set_option maxHeartbeats 0 in
theorem PySem.Challenge.cw_sparkboard_k00_errors_holds : PySem.Challenge.rw_sparkboard_k00_errors.Holds := by
  w_on; o_law; k_head; (case hw => w_witness2)
  k_fill
  refine Sb.walk (l := PySem.Challenge.rw_sparkboard_k00_errors) rfl rfl (fun w h Y => PySem.W.kIn_of Y) ?F
  case F =>
    intro w mg fa h KX G hmg
    refine' Sb.all_mk KX G hmg ?hn ?ht ?g_SparkError ?x_SparkError ?sa_SparkError ?ga_SparkError ?gg_SparkError ?hc_SparkError ?kc_SparkError ?xx ?g_BadText ?x_BadText ?sa_BadText ?ga_BadText ?gg_BadText ?hc_BadText ?kc_BadText ?n_BadText_column ?a_BadText ?l_BadText ?c_BadText ?k_BadText ?t_BadText ?g_BadLine ?x_BadLine ?sa_BadLine ?ga_BadLine ?gg_BadLine ?hc_BadLine ?kc_BadLine ?n_BadLine_line ?n_BadLine_column ?a_BadLine ?l_BadLine ?c_BadLine ?k_BadLine ?t_BadLine ?g_BadNumber ?x_BadNumber ?sa_BadNumber ?ga_BadNumber ?gg_BadNumber ?hc_BadNumber ?kc_BadNumber ?n_BadNumber_what ?n_BadNumber_number ?a_BadNumber ?l_BadNumber ?c_BadNumber ?k_BadNumber ?t_BadNumber ?g_BadRow ?x_BadRow ?sa_BadRow ?ga_BadRow ?gg_BadRow ?hc_BadRow ?kc_BadRow ?n_BadRow_row ?a_BadRow ?l_BadRow ?c_BadRow ?k_BadRow ?t_BadRow ?g_BadName ?x_BadName ?sa_BadName ?ga_BadName ?gg_BadName ?hc_BadName ?kc_BadName ?n_BadName_name ?a_BadName ?l_BadName ?c_BadName ?k_BadName ?t_BadName ?g_BadCell ?x_BadCell ?sa_BadCell ?ga_BadCell ?gg_BadCell ?hc_BadCell ?kc_BadCell ?n_BadCell_cell ?a_BadCell ?l_BadCell ?c_BadCell ?k_BadCell ?t_BadCell ?g_BadGate ?x_BadGate ?sa_BadGate ?ga_BadGate ?gg_BadGate ?hc_BadGate ?kc_BadGate ?n_BadGate_index ?a_BadGate ?l_BadGate ?c_BadGate ?k_BadGate ?t_BadGate ?g_BadTile ?x_BadTile ?sa_BadTile ?ga_BadTile ?gg_BadTile ?hc_BadTile ?kc_BadTile ?n_BadTile_stage ?n_BadTile_tile ?a_BadTile ?l_BadTile ?c_BadTile ?k_BadTile ?t_BadTile ?g_NoName ?x_NoName ?sa_NoName ?ga_NoName ?gg_NoName ?hc_NoName ?kc_NoName ?n_NoName_name ?a_NoName ?l_NoName ?c_NoName ?k_NoName ?t_NoName ?g_TakenName ?x_TakenName ?sa_TakenName ?ga_TakenName ?gg_TakenName ?hc_TakenName ?kc_TakenName ?n_TakenName_name ?a_TakenName ?l_TakenName ?c_TakenName ?k_TakenName ?t_TakenName ?g_Unlike ?x_Unlike ?sa_Unlike ?ga_Unlike ?gg_Unlike ?hc_Unlike ?kc_Unlike ?n_Unlike_what ?a_Unlike ?l_Unlike ?c_Unlike ?k_Unlike ?t_Unlike ?g_NotKept ?x_NotKept ?sa_NotKept ?ga_NotKept ?gg_NotKept ?hc_NotKept ?kc_NotKept ?n_NotKept_promise ?n_NotKept_witness ?a_NotKept ?l_NotKept ?c_NotKept ?k_NotKept ?t_NotKept ?g_NothingToUndo ?x_NothingToUndo ?sa_NothingToUndo ?ga_NothingToUndo ?gg_NothingToUndo ?hc_NothingToUndo ?kc_NothingToUndo ?a_NothingToUndo ?l_NothingToUndo ?c_NothingToUndo ?k_NothingToUndo ?t_NothingToUndo ?g_NothingToRedo ?x_NothingToRedo ?sa_NothingToRedo ?ga_NothingToRedo ?gg_NothingToRedo ?hc_NothingToRedo ?kc_NothingToRedo ?a_NothingToRedo ?l_NothingToRedo ?c_NothingToRedo ?k_NothingToRedo ?t_NothingToRedo ?a__law_pen ?l__law_pen ?c__law_pen ?k__law_pen ?a__law_draw ?l__law_draw ?c__law_draw ?k__law_draw ?a__law_pick ?l__law_pick ?c__law_pick ?k__law_pick ?a__law_kinds ?l__law_kinds ?c__law_kinds ?k__law_kinds ?a_law ?l_law ?c_law ?k_law ?z_int ?z_list ?z_len ?z_isinstance ?z_range ?z_ValueError
    (case hn => k_is)
    (case ht => k_is)
    (case g_SparkError => k_is)
    (case x_SparkError => k_is)
    (case sa_SparkError => k_is)
    (case ga_SparkError => k_is)
    (case gg_SparkError => k_is)
    (case hc_SparkError => k_is)
    (case kc_SparkError => k_is)
    (case xx => k_exc)
    (case g_BadText => k_is)
    (case x_BadText => k_is)
    (case sa_BadText => k_is)
    (case ga_BadText => k_is)
    (case gg_BadText => k_is)
    (case hc_BadText => k_is)
    (case kc_BadText => k_is)
    (case n_BadText_column => k_is)
    (case a_BadText => k_is)
    (case l_BadText => k_is)
    (case c_BadText => k_is)
    (case k_BadText => k_is)
    (case t_BadText => k_is)
    (case g_BadLine => k_is)
    (case x_BadLine => k_is)
    (case sa_BadLine => k_is)
    (case ga_BadLine => k_is)
    (case gg_BadLine => k_is)
    (case hc_BadLine => k_is)
    (case kc_BadLine => k_is)
    (case n_BadLine_line => k_is)
    (case n_BadLine_column => k_is)
    (case a_BadLine => k_is)
    (case l_BadLine => k_is)
    (case c_BadLine => k_is)
    (case k_BadLine => k_is)
    (case t_BadLine => k_is)
    (case g_BadNumber => k_is)
    (case x_BadNumber => k_is)
    (case sa_BadNumber => k_is)
    (case ga_BadNumber => k_is)
    (case gg_BadNumber => k_is)
    (case hc_BadNumber => k_is)
    (case kc_BadNumber => k_is)
    (case n_BadNumber_what => k_is)
    (case n_BadNumber_number => k_is)
    (case a_BadNumber => k_is)
    (case l_BadNumber => k_is)
    (case c_BadNumber => k_is)
    (case k_BadNumber => k_is)
    (case t_BadNumber => k_is)
    (case g_BadRow => k_is)
    (case x_BadRow => k_is)
    (case sa_BadRow => k_is)
    (case ga_BadRow => k_is)
    (case gg_BadRow => k_is)
    (case hc_BadRow => k_is)
    (case kc_BadRow => k_is)
    (case n_BadRow_row => k_is)
    (case a_BadRow => k_is)
    (case l_BadRow => k_is)
    (case c_BadRow => k_is)
    (case k_BadRow => k_is)
    (case t_BadRow => k_is)
    (case g_BadName => k_is)
    (case x_BadName => k_is)
    (case sa_BadName => k_is)
    (case ga_BadName => k_is)
    (case gg_BadName => k_is)
    (case hc_BadName => k_is)
    (case kc_BadName => k_is)
    (case n_BadName_name => k_is)
    (case a_BadName => k_is)
    (case l_BadName => k_is)
    (case c_BadName => k_is)
    (case k_BadName => k_is)
    (case t_BadName => k_is)
    (case g_BadCell => k_is)
    (case x_BadCell => k_is)
    (case sa_BadCell => k_is)
    (case ga_BadCell => k_is)
    (case gg_BadCell => k_is)
    (case hc_BadCell => k_is)
    (case kc_BadCell => k_is)
    (case n_BadCell_cell => k_is)
    (case a_BadCell => k_is)
    (case l_BadCell => k_is)
    (case c_BadCell => k_is)
    (case k_BadCell => k_is)
    (case t_BadCell => k_is)
    (case g_BadGate => k_is)
    (case x_BadGate => k_is)
    (case sa_BadGate => k_is)
    (case ga_BadGate => k_is)
    (case gg_BadGate => k_is)
    (case hc_BadGate => k_is)
    (case kc_BadGate => k_is)
    (case n_BadGate_index => k_is)
    (case a_BadGate => k_is)
    (case l_BadGate => k_is)
    (case c_BadGate => k_is)
    (case k_BadGate => k_is)
    (case t_BadGate => k_is)
    (case g_BadTile => k_is)
    (case x_BadTile => k_is)
    (case sa_BadTile => k_is)
    (case ga_BadTile => k_is)
    (case gg_BadTile => k_is)
    (case hc_BadTile => k_is)
    (case kc_BadTile => k_is)
    (case n_BadTile_stage => k_is)
    (case n_BadTile_tile => k_is)
    (case a_BadTile => k_is)
    (case l_BadTile => k_is)
    (case c_BadTile => k_is)
    (case k_BadTile => k_is)
    (case t_BadTile => k_is)
    (case g_NoName => k_is)
    (case x_NoName => k_is)
    (case sa_NoName => k_is)
    (case ga_NoName => k_is)
    (case gg_NoName => k_is)
    (case hc_NoName => k_is)
    (case kc_NoName => k_is)
    (case n_NoName_name => k_is)
    (case a_NoName => k_is)
    (case l_NoName => k_is)
    (case c_NoName => k_is)
    (case k_NoName => k_is)
    (case t_NoName => k_is)
    (case g_TakenName => k_is)
    (case x_TakenName => k_is)
    (case sa_TakenName => k_is)
    (case ga_TakenName => k_is)
    (case gg_TakenName => k_is)
    (case hc_TakenName => k_is)
    (case kc_TakenName => k_is)
    (case n_TakenName_name => k_is)
    (case a_TakenName => k_is)
    (case l_TakenName => k_is)
    (case c_TakenName => k_is)
    (case k_TakenName => k_is)
    (case t_TakenName => k_is)
    (case g_Unlike => k_is)
    (case x_Unlike => k_is)
    (case sa_Unlike => k_is)
    (case ga_Unlike => k_is)
    (case gg_Unlike => k_is)
    (case hc_Unlike => k_is)
    (case kc_Unlike => k_is)
    (case n_Unlike_what => k_is)
    (case a_Unlike => k_is)
    (case l_Unlike => k_is)
    (case c_Unlike => k_is)
    (case k_Unlike => k_is)
    (case t_Unlike => k_is)
    (case g_NotKept => k_is)
    (case x_NotKept => k_is)
    (case sa_NotKept => k_is)
    (case ga_NotKept => k_is)
    (case gg_NotKept => k_is)
    (case hc_NotKept => k_is)
    (case kc_NotKept => k_is)
    (case n_NotKept_promise => k_is)
    (case n_NotKept_witness => k_is)
    (case a_NotKept => k_is)
    (case l_NotKept => k_is)
    (case c_NotKept => k_is)
    (case k_NotKept => k_is)
    (case t_NotKept => k_is)
    (case g_NothingToUndo => k_is)
    (case x_NothingToUndo => k_is)
    (case sa_NothingToUndo => k_is)
    (case ga_NothingToUndo => k_is)
    (case gg_NothingToUndo => k_is)
    (case hc_NothingToUndo => k_is)
    (case kc_NothingToUndo => k_is)
    (case a_NothingToUndo => k_is)
    (case l_NothingToUndo => k_is)
    (case c_NothingToUndo => k_is)
    (case k_NothingToUndo => k_is)
    (case t_NothingToUndo => k_is)
    (case g_NothingToRedo => k_is)
    (case x_NothingToRedo => k_is)
    (case sa_NothingToRedo => k_is)
    (case ga_NothingToRedo => k_is)
    (case gg_NothingToRedo => k_is)
    (case hc_NothingToRedo => k_is)
    (case kc_NothingToRedo => k_is)
    (case a_NothingToRedo => k_is)
    (case l_NothingToRedo => k_is)
    (case c_NothingToRedo => k_is)
    (case k_NothingToRedo => k_is)
    (case t_NothingToRedo => k_is)
    (case a__law_pen => k_is)
    (case l__law_pen => k_is)
    (case c__law_pen => k_is)
    (case k__law_pen => k_is)
    (case a__law_draw => k_is)
    (case l__law_draw => k_is)
    (case c__law_draw => k_is)
    (case k__law_draw => k_is)
    (case a__law_pick => k_is)
    (case l__law_pick => k_is)
    (case c__law_pick => k_is)
    (case k__law_pick => k_is)
    (case a__law_kinds => k_is)
    (case l__law_kinds => k_is)
    (case c__law_kinds => k_is)
    (case k__law_kinds => k_is)
    (case a_law => k_is)
    (case l_law => k_is)
    (case c_law => k_is)
    (case k_law => k_is)
    (case z_int => k_is)
    (case z_list => k_is)
    (case z_len => k_is)
    (case z_isinstance => k_is)
    (case z_range => k_is)
    (case z_ValueError => k_is)
